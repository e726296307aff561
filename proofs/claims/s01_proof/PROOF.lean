import PyProof.Rows.All
import Wide.All
import OpenK.AllK
import Wide.FinOn
import PyProof.EqAt
import PyProof.EqKinds
import PyProof.TupleCall
import KE.BitLaws
import Open.SpecLaws
import KE.OsHead
import KE.OsGo
import KE.KLam
import KE.KNestM
import KE.KSortTupG
import KE.KSortTupUse
import PySem.Challenge.RW_cabinsgiven_s01_answers
set_option Elab.async false
set_option linter.all false
set_option maxRecDepth 100000
/-! THE HAND LAYER, for ints, bools, texts, own classes, lists, tuples, dicts, comprehensions, walks over dicts, enumerate, zip, reversed, texts, calls, loops. Paste it whole ahead of your own text; what your proof does not reach may be deleted. -/
namespace L2
open PySem PySem.Spec PyProof.Rows

/-- a key: an int or a str -/
abbrev Key := Sum Int Str
def keyIs : Key → Value → Bool
  | .inl k, v => Value.isInt k v
  | .inr x, v => Value.isStrOf x v
def keyH (w : World) : Key → Int
  | .inl k => hashInt k
  | .inr x => hashStr w x
theorem keyIs_shape : ∀ {k : Key} {v : Value}, keyIs k v = true → (∃ i t, k = Sum.inl i ∧ v = Value.int i t) ∨ (∃ x t, k = Sum.inr x ∧ v = Value.str x t)
  | .inl i, v, h => by
    obtain ⟨t, e⟩ := Value.isInt_shape (k := i) (v := v) h
    exact .inl ⟨i, t, rfl, e⟩
  | .inr x, v, h => by
    obtain ⟨t, e⟩ := Value.isStrOf_shape (x := x) (v := v) h
    exact .inr ⟨x, t, rfl, e⟩
theorem keyIs_int (i : Int) (t : Tok) : keyIs (.inl i) (.int i t) = true := by simp [keyIs, Value.isInt]
theorem keyIs_str (x : Str) (t : Tok) : keyIs (.inr x) (.str x t) = true := by simp [keyIs, Value.isStrOf]
theorem key_ll (a b : Int) : decide ((Sum.inl a : Key) = Sum.inl b) = (a == b) := by
  by_cases e : a = b
  · subst e; simp
  · have h : ¬ (Sum.inl a : Key) = Sum.inl b := fun q => e (Sum.inl.inj q)
    rw [decide_eq_false h]
    exact (beq_eq_false_iff_ne.mpr e).symm
theorem key_rr (a b : Str) : decide ((Sum.inr a : Key) = Sum.inr b) = decide (a = b) := by
  by_cases e : a = b
  · subst e; simp
  · have h : ¬ (Sum.inr a : Key) = Sum.inr b := fun q => e (Sum.inr.inj q)
    rw [decide_eq_false h, decide_eq_false e]
theorem key_lr (a : Int) (b : Str) : decide ((Sum.inl a : Key) = Sum.inr b) = false := decide_eq_false (fun q => nomatch q)
theorem key_rl (a : Str) (b : Int) : decide ((Sum.inr a : Key) = Sum.inl b) = false := decide_eq_false (fun q => nomatch q)

def mixKind (prog : Program) (w : World) : PySem.KeyKind prog w Key where
  is := keyIs
  hash := keyH w
  inj := fun v a b ha hb => by
    rcases keyIs_shape ha with ⟨i, t, rfl, rfl⟩ | ⟨x, t, rfl, rfl⟩
    · rcases keyIs_shape hb with ⟨j, u, rfl, e⟩ | ⟨y, u, rfl, e⟩
      · injection e with e1 _; rw [e1]
      · exact nomatch e
    · rcases keyIs_shape hb with ⟨j, u, rfl, e⟩ | ⟨y, u, rfl, e⟩
      · exact nomatch e
      · injection e with e1 _; rw [e1]
  byValue := fun k v h => by
    rcases keyIs_shape h with ⟨i, t, rfl, rfl⟩ | ⟨x, t, rfl, rfl⟩ <;> rfl
  pyHash := fun hv h => by
    rcases keyIs_shape hv with ⟨i, t, rfl, rfl⟩ | ⟨x, t, rfl, rfl⟩
    · exact wpAny_pyHash_int h
    · exact wpAny_pyHash_str h
  eqBool := fun hu hv h => by
    rcases keyIs_shape hu with ⟨i, t, rfl, rfl⟩ | ⟨x, t, rfl, rfl⟩
    · rcases keyIs_shape hv with ⟨j, u, rfl, rfl⟩ | ⟨y, u, rfl, rfl⟩
      · rw [key_ll] at h; exact wpAny_eqBool_int h
      · rw [key_lr] at h; exact SeqAt.EqAt.int_str i t y u _ _ _ _ h
    · rcases keyIs_shape hv with ⟨j, u, rfl, rfl⟩ | ⟨y, u, rfl, rfl⟩
      · rw [key_rl] at h; exact SeqAt.EqAt.str_int x t j u _ _ _ _ h
      · rw [key_rr] at h; exact wpAny_eqBool_str h
  «strs» := fun k x t v h => by
    rcases keyIs_shape h with ⟨i, u, rfl, e⟩ | ⟨y, u, rfl, e⟩
    · exact nomatch e
    · injection e with e1 _
      subst e1
      cases v <;> rfl

theorem mixKind_int (prog : Program) (w : World) (i : Int) (t : Tok) : (mixKind prog w).is (.inl i) (.int i t) = true := keyIs_int i t
theorem mixKind_str (prog : Program) (w : World) (x : Str) (t : Tok) : (mixKind prog w).is (.inr x) (.str x t) = true := keyIs_str x t
end L2

namespace L2
open PySem PySem.Spec PyProof.Rows

/-- a value, without the heap -/
inductive V where
  | non | bl (b : Bool) | int (i : Int) | str (x : Str) | byt (b : Array UInt8) | flt (b : UInt64) | ref (a : Addr) | ty (n : String)
  deriving DecidableEq

def RelV : V → Value → Prop
  | .non, u => u = Value.none
  | .bl b, u => u = Value.bool b
  | .int i, u => ∃ t, u = Value.int i t
  | .str x, u => ∃ t, u = Value.str x t
  | .byt b, u => ∃ t, u = Value.bytes b t
  | .flt b, u => ∃ t, u = Value.float b t
  | .ref a, u => u = Value.ref a
  | .ty n, u => u = Value.type n

abbrev Vals : List V → List Value → Prop := Paired RelV
theorem Vals.length {xs : List V} {us : List Value} (r : Vals xs us) : xs.length = us.length := Paired.length r
theorem Vals.get : ∀ {xs : List V} {us : List Value} {i : Nat} {x : V}, Vals xs us → xs[i]? = some x → ∃ u, us[i]? = some u ∧ RelV x u
  | _, _, _, _, .nil, e => by simp at e
  | _, _, 0, _, .cons r _, e => by simp at e; subst e; exact ⟨_, rfl, r⟩
  | _, _, i + 1, x, .cons _ t, e => by
    obtain ⟨u, h1, h2⟩ := Vals.get (i := i) (x := x) t (by simpa using e)
    exact ⟨u, by simpa using h1, h2⟩
theorem Vals.append : ∀ {xs ys : List V} {us ws : List Value}, Vals xs us → Vals ys ws → Vals (xs ++ ys) (us ++ ws)
  | _, _, _, _, .nil, s => s
  | _, _, _, _, .cons r t, s => .cons r (Vals.append t s)
theorem Vals.take : ∀ {xs : List V} {us : List Value} (n : Nat), Vals xs us → Vals (xs.take n) (us.take n)
  | _, _, 0, _ => .nil
  | _, _, _ + 1, .nil => .nil
  | _, _, n + 1, .cons r t => .cons r (Vals.take n t)
theorem Vals.drop : ∀ {xs : List V} {us : List Value} (n : Nat), Vals xs us → Vals (xs.drop n) (us.drop n)
  | _, _, 0, r => r
  | _, _, _ + 1, .nil => .nil
  | _, _, n + 1, .cons _ t => Vals.drop n t
def RelO : Option V → Option Value → Prop
  | some v, some u => RelV v u
  | none, none => True
  | _, _ => False
def KV {κ : Type} : List (κ × V) → List (κ × Value) → Prop := Paired fun (p : κ × V) (q : κ × Value) => p.1 = q.1 ∧ RelV p.2 q.2

/-- a key of a dict (00_mix): an int or a text -/
def kV : Key → V
  | .inl i => .int i
  | .inr x => .str x

/-- what stands at a tracked address -/
inductive HO where
  /-- a list -/
  | lst (xs : List V)
  /-- a tuple (never changes) -/
  | tup (xs : List V)
  /-- a dict whose keys are ints and texts; one whose keys are tuples of ints and texts (the empty one is both) -/
  | dK (kvs : List (Key × V)) | dT (kvs : List (List Key × V))
  /-- a set of ints: its members, its size -/
  | set (S : Int → Bool) (n : Nat)
  /-- an instance of the class at C, its dict at dx, its attributes -/
  | ins (C dx : Addr) (fs : List (Str × V))
  /-- the dict of the instance at x -/
  | own (x : Addr)
  /-- the dict of an exception -/
  | xd (fs : List (Str × V))
  /-- a bound method, f of x -/
  | met (f x : Addr)
  /-- a range object lo, lo + 1, .. below hi -/
  | rng (lo hi : Int)
  /-- a thing that is known to the object (the script; a dict while a loop walks it): read, never written while it is so -/
  | frz (o : Obj) (u : HO)
  /-- a code object's table -/
  | tbl (ps : Array Value)
  /-- any other thing, by what is true of its one object (a def of one's own: SetO a S n := HO.ext fun h => ..) -/
  | ext (φ : Heap → Prop)

abbrev Hp := Addr → Option HO
def upd (H : Hp) (a : Addr) (o : HO) : Hp := fun b => if b = a then some o else H b
theorem upd_same {H : Hp} {a : Addr} {o : HO} : upd H a o a = some o := by unfold upd; rw [if_pos rfl]
theorem upd_ne {H : Hp} {a b : Addr} {o : HO} (h : b ≠ a) : upd H a o b = H b := by unfold upd; rw [if_neg h]
theorem upd_upd {H : Hp} {a : Addr} {o u : HO} : upd (upd H a o) a u = upd H a u := by
  funext b; unfold upd; split <;> rfl
/-- two objects of different content stand apart -/
theorem ne_of {H : Hp} {a b : Addr} {o u : HO} (h : H a = some o) (h' : H b = some u) (d : o ≠ u) : a ≠ b := by
  intro e; subst e; rw [h] at h'; exact d (Option.some.inj h')
theorem ne_of_none {H : Hp} {a b : Addr} {o : HO} (h : H a = some o) (h' : H b = none) : a ≠ b := by
  intro e; subst e; rw [h] at h'; cases h'

section
variable (P : Program) (w : World)
def ObjOk (H : Hp) (h : Heap) (a : Addr) : HO → Prop
  | .lst xs => xs.length ≤ sizeLine ∧ ∃ (its : List Value) (n : Nat), Vals xs its ∧ h.get? a = some { cls := .type "list", data := .seq its.toArray n }
  | .tup xs => xs.length ≤ sizeLine ∧ ∃ its : List Value, Vals xs its ∧ IsTup h a its.toArray
  | .dK kvs => kvs.length ≤ sizeLine ∧ (a == sysModules) = false ∧ ∃ vs, KV kvs vs ∧ h.DictOf (mixKind P w) a vs
  | .dT kvs => kvs.length ≤ sizeLine ∧ (a == sysModules) = false ∧ ∃ xs : List (List Key × Addr × Value),
      Paired (fun (p : List Key × V) (q : List Key × Addr × Value) => p.1 = q.1 ∧ H q.2.1 = some (.tup (p.1.map kV)) ∧ RelV p.2 q.2.2) kvs xs ∧
      ∃ o es ep, h.get? a = some o ∧ o.ExactDict ∧ o.data = .dict es ep ∧ es.toList = xs.map (entryOfKey (tupleKind (mixKind P w))) ∧ (xs.map (·.1)).Nodup
  | .set S n => h.SetOf (intKind P w) a S n
  | .ins C dx fs => H dx = some (.own a) ∧ fs.length ≤ 1000 ∧ dx ≠ a ∧ h.get? a = some (PySem.W.instObj C dx) ∧
      ∃ mA, h.Ns1 dx mA ∧ (∀ f, RelO (fs.lookup f) (mA f)) ∧ PySem.Within mA (fs.map (·.1))
  | .own _ => ∃ o, h.get? a = some o
  | .xd fs => ∃ mA, h.Ns1 a mA ∧ ∀ f, RelO (fs.lookup f) (mA f)
  | .rng lo hi => ∃ t u v, h.get? a = some { cls := .type "range", data := .fields #[.int lo t, .int hi u, .int 1 v] }
  | .frz o u => h.get? a = some o ∧ ObjOk H h a u
  | .tbl ps => h.get? a = some { cls := .none, data := .fields ps }
  | .met f x => h.get? a = some (PySem.W.methodObj (.ref f) (.ref x))
  | .ext φ => φ h ∧ (∃ o, h.get? a = some o) ∧ ∀ h1 h2 : Heap, φ h1 → (∀ o, h1.get? a = some o → h2.get? a = some o) → φ h2
/-- the abstract heap is held -/
def HOk (H : Hp) (h : Heap) : Prop := ∀ a o, H a = some o → ObjOk P w H h a o
end

section
variable {P : Program} {w : World} {H H' : Hp} {h h' : Heap} {a : Addr} {o : HO}
theorem ObjOk.lt (x : ObjOk P w H h a o) : a < h.objs.size := by
  cases o with
  | lst xs => obtain ⟨_, _, _, _, e⟩ := x; exact Heap.lt_size e
  | tup xs => obtain ⟨_, _, _, p⟩ := x; exact p.lt
  | dK kvs => obtain ⟨_, _, _, _, o, _, _, e, _⟩ := x; exact Heap.lt_size e
  | dT kvs => obtain ⟨_, _, _, _, o, _, _, e, _⟩ := x; exact Heap.lt_size e
  | set S n => obtain ⟨o, _, _, _, e, _⟩ := x; exact Heap.lt_size e
  | ins C dx fs => obtain ⟨_, _, _, e, _⟩ := x; exact Heap.lt_size e
  | own y => obtain ⟨_, e⟩ := x; exact Heap.lt_size e
  | xd fs => obtain ⟨_, ⟨_, _, _, e, _⟩, _⟩ := x; exact Heap.lt_size e
  | rng lo hi => obtain ⟨_, _, _, e⟩ := x; exact Heap.lt_size e
  | frz ob u => obtain ⟨e, _⟩ := x; exact Heap.lt_size e
  | tbl ps => exact Heap.lt_size (show h.get? a = some _ from x)
  | met f y => exact Heap.lt_size (show h.get? a = some _ from x)
  | ext φ => obtain ⟨_, ⟨_, e⟩, _⟩ := x; exact Heap.lt_size e
theorem Paired.mapP {α β : Type} {F G : α → β → Prop} : ∀ {l₁ : List α} {l₂ : List β}, Paired F l₁ l₂ → (∀ a b, F a b → G a b) → Paired G l₁ l₂
  | _, _, .nil, _ => .nil
  | _, _, .cons r t, f => .cons (f _ _ r) (Paired.mapP t f)
theorem Paired.imp' {α β : Type} {F G : α → β → Prop} (f : ∀ a b, F a b → G a b) {l₁ : List α} {l₂ : List β} (r : Paired F l₁ l₂) : Paired G l₁ l₂ := Paired.mapP r f
/-- what an object's description leans on: its own object, its own dict, the tuples -/
theorem ObjOk.stay (x : ObjOk P w H h a o) (k : ∀ b u, (b = a ∨ H b = some (.own a)) → h.get? b = some u → h'.get? b = some u)
    (ho : ∀ b, H b = some (.own a) → H' b = some (.own a)) (ht : ∀ b xs, H b = some (.tup xs) → H' b = some (.tup xs)) : ObjOk P w H' h' a o := by
  induction o with
  | lst xs => obtain ⟨z, its, n, r, e⟩ := x; exact ⟨z, its, n, r, k _ _ (.inl rfl) e⟩
  | tup xs => obtain ⟨z, its, r, ob, e, c⟩ := x; exact ⟨z, its, r, ob, k _ _ (.inl rfl) e, c⟩
  | dK kvs => obtain ⟨z, y, vs, r, ob, es, ep, e, c⟩ := x; exact ⟨z, y, vs, r, ob, es, ep, k _ _ (.inl rfl) e, c⟩
  | dT kvs =>
    obtain ⟨z, y, xs, r, ob, es, ep, e, c⟩ := x
    exact ⟨z, y, xs, Paired.mapP r fun p q z => ⟨z.1, ht _ _ z.2.1, z.2.2⟩, ob, es, ep, k _ _ (.inl rfl) e, c⟩
  | set S n => obtain ⟨ob, es, ep, t, e, c⟩ := x; exact ⟨ob, es, ep, t, k _ _ (.inl rfl) e, c⟩
  | ins C dx fs =>
    obtain ⟨d, z, ne, e, mA, ⟨od, es, ep, e2, c⟩, r⟩ := x
    exact ⟨ho _ d, z, ne, k _ _ (.inl rfl) e, mA, ⟨od, es, ep, k _ _ (.inr d) e2, c⟩, r⟩
  | own y => obtain ⟨ob, e⟩ := x; exact ⟨ob, k _ _ (.inl rfl) e⟩
  | xd fs => obtain ⟨mA, ⟨od, es, ep, e, c⟩, r⟩ := x; exact ⟨mA, ⟨od, es, ep, k _ _ (.inl rfl) e, c⟩, r⟩
  | rng lo hi => obtain ⟨t, u, v, e⟩ := x; exact ⟨t, u, v, k _ _ (.inl rfl) e⟩
  | frz ob u ih => obtain ⟨e, q⟩ := x; exact ⟨k _ _ (.inl rfl) e, ih q⟩
  | tbl ps =>
    have e : h.get? a = some { cls := .none, data := .fields ps } := x
    show h'.get? a = some { cls := .none, data := .fields ps }
    exact k a _ (.inl rfl) e
  | met f y =>
    have e : h.get? a = some (PySem.W.methodObj (.ref f) (.ref y)) := x
    show h'.get? a = some (PySem.W.methodObj (.ref f) (.ref y))
    exact k a _ (.inl rfl) e
  | ext φ => obtain ⟨p, ⟨o, e⟩, st⟩ := x; exact ⟨st _ _ p fun o q => k _ _ (.inl rfl) q, ⟨o, k _ _ (.inl rfl) e⟩, st⟩
theorem HOk.lt (x : HOk P w H h) (e : H a = some o) : a < h.objs.size := (x a o e).lt
theorem HOk.fresh (x : HOk P w H h) (e : h.objs.size ≤ a) : H a = none := by
  cases q : H a with
  | none => rfl
  | some u => exact absurd (Nat.lt_of_lt_of_le (x.lt q) e) (Nat.lt_irrefl _)
/-- every object of the heap is kept -/
theorem HOk.kept (x : HOk P w H h) (k : ∀ b u, h.get? b = some u → h'.get? b = some u) : HOk P w H h' := fun a o e =>
  (x a o e).stay (fun b u _ q => k b u q) (fun _ q => q) fun _ _ q => q
/-- a new object is laid and tracked -/
theorem HOk.laid (x : HOk P w H h) (k : ∀ b u, h.get? b = some u → h'.get? b = some u) (hp : h.objs.size ≤ a) (new : ObjOk P w (upd H a o) h' a o) : HOk P w (upd H a o) h' := fun b u e => by
  have hn := x.fresh hp
  by_cases hb : b = a
  · subst hb; rw [upd_same] at e; cases e; exact new
  · rw [upd_ne hb] at e
    exact (x b u e).stay (fun c v _ q => k c v q) (fun c q => by rw [upd_ne (ne_of_none q hn)]; exact q) fun c xs q => by rw [upd_ne (ne_of_none q hn)]; exact q
end

/-- what may be read as u: it is u, or a known u -/
def Rd (H : Hp) (a : Addr) (u : HO) : Prop := H a = some u ∨ ∃ o, H a = some (.frz o u)
theorem Rd.ok {P : Program} {w : World} {H : Hp} {h : Heap} {a : Addr} {u : HO} (r : Rd H a u) (x : HOk P w H h) : ObjOk P w H h a u := by
  rcases r with r | ⟨o, r⟩
  · exact x a u r
  · obtain ⟨_, q⟩ := x a _ r
    exact q
/-- what may be written -/
def Mut : Option HO → Prop
  | some (.lst _) => True
  | some (.dK _) => True
  | some (.dT _) => True
  | some (.set _ _) => True
  | some (.ins _ _ _) => True
  | some (.ext _) => True
  | _ => False
section
variable {P : Program} {w : World} {H : Hp} {h h' : Heap} {x e : Addr} {o' : HO}
/-- the object at e is changed: x itself, or the dict of the instance x -/
theorem HOk.write (ok : HOk P w H h) (mu : Mut (H x)) (he : e = x ∨ H e = some (.own x)) (k : ∀ b u, b ≠ e → h.get? b = some u → h'.get? b = some u) (heo : ∃ u, h'.get? e = some u)
    (new : ObjOk P w (upd H x o') h' x o') : HOk P w (upd H x o') h' := fun b u q => by
  have nown : ∀ c y, H c = some (.own y) → c ≠ x := fun c y r z => by subst z; rw [r] at mu; exact mu
  have ntup : ∀ c xs, H c = some (.tup xs) → c ≠ x := fun c xs r z => by subst z; rw [r] at mu; exact mu
  by_cases hb : b = x
  · subst hb; rw [upd_same] at q; cases q; exact new
  · rw [upd_ne hb] at q
    by_cases hbe : b = e
    · have q' : H b = some (.own x) := by
        rcases he with z | z
        · exact absurd (hbe.trans z) hb
        · rw [hbe]; exact z
      rw [q] at q'; cases q'
      obtain ⟨v, hv⟩ := heo
      exact ⟨v, by rw [hbe]; exact hv⟩
    · refine (ok b u q).stay (fun c v hc r => k c v ?_ r) (fun c r => by rw [upd_ne (nown c b r)]; exact r) fun c xs r => by rw [upd_ne (ntup c xs r)]; exact r
      rcases hc with rfl | hc
      · exact hbe
      · rintro rfl
        rcases he with z | z
        · exact nown c b hc z
        · rw [hc] at z; cases z; exact hb rfl
end

/-! ### kept unless tracked; of the frames at fs (the callers') the slots may change (an exception that passes writes there); of the records at ex (iterators) nothing is said -/
structure Un (fs ex : List Addr) (H H' : Hp) (h h' : Heap) : Prop where
  keep : ∀ b o, h.get? b = some o → H b = none → b ∉ fs → b ∉ ex → h'.get? b = some o
  slot : ∀ b o, h.get? b = some o → H b = none → b ∈ fs → b ∉ ex → ∃ sl, h'.get? b = some { o with slots := sl }
  free : ∀ b o, h.get? b = some o → H b = none → b ∉ ex → H' b = none
  there : ∀ b o, h.get? b = some o → b ∉ ex → ∃ o', h'.get? b = some o'
  tups : ∀ b xs, H b = some (.tup xs) → H' b = some (.tup xs)
  frzs : ∀ b o u, H b = some (.frz o u) → H' b = some (.frz o u)
  tbls : ∀ b ps, H b = some (.tbl ps) → ∃ more, H' b = some (.tbl (ps ++ more))
section
variable {fs fs' ex ex' : List Addr} {H H1 H2 : Hp} {h h1 h2 h' : Heap} {a x e : Addr} {o : HO}
theorem Un.any (u : Un fs ex H H1 h h1) {b : Addr} {ob : Obj} (q : h.get? b = some ob) (n : H b = none) (hx : b ∉ ex) : ∃ sl, h1.get? b = some { ob with slots := sl } := by
  by_cases hb : b ∈ fs
  · exact u.slot b ob q n hb hx
  · exact ⟨ob.slots, u.keep b ob q n hb hx⟩
theorem Un.kept (k : ∀ b u, h.get? b = some u → h'.get? b = some u) : Un fs ex H H h h' :=
  ⟨fun b ob q _ _ _ => k b ob q, fun b ob q _ _ _ => ⟨ob.slots, k b ob q⟩, fun _ _ _ n _ => n, fun b ob q _ => ⟨ob, k b ob q⟩, fun _ _ q => q, fun _ _ _ q => q, fun _ ps q => ⟨#[], by rw [q]; simp⟩⟩
theorem Un.refl : Un fs ex H H h h := Un.kept fun _ _ q => q
theorem Un.laid (k : ∀ b u, h.get? b = some u → h'.get? b = some u) (hp : h.objs.size ≤ a) (hn : H a = none) : Un fs ex H (upd H a o) h h' where
  keep := fun b u q _ _ _ => k b u q
  slot := fun b u q _ _ _ => ⟨u.slots, k b u q⟩
  free := fun b u q n _ => by rw [upd_ne (Nat.ne_of_lt (Nat.lt_of_lt_of_le (Heap.lt_size q) hp))]; exact n
  there := fun b u q _ => ⟨u, k b u q⟩
  tups := fun b xs q => by rw [upd_ne (ne_of_none q hn)]; exact q
  frzs := fun b u xs q => by rw [upd_ne (ne_of_none q hn)]; exact q
  tbls := fun b ps q => ⟨#[], by rw [upd_ne (ne_of_none q hn), q]; simp⟩
theorem Un.write (mu : Mut (H x)) (he : e = x ∨ H e = some (.own x)) (k : ∀ b u, b ≠ e → h.get? b = some u → h'.get? b = some u) (heo : ∃ u, h'.get? e = some u) : Un fs ex H (upd H x o) h h' := by
  have hx : ∀ b, H b = none → b ≠ x := fun b n z => by subst z; rw [n] at mu; exact mu
  have hb : ∀ b, H b = none → b ≠ e := fun b n z => by
    subst z
    rcases he with r | r
    · exact hx b n r
    · rw [n] at r; cases r
  have hm : ∀ b u, H b = some u → ¬ Mut (some u) → b ≠ x := fun b u q nm z => by subst z; rw [q] at mu; exact nm mu
  refine ⟨fun b u q n _ _ => k b u (hb b n) q, fun b u q n _ _ => ⟨u.slots, k b u (hb b n) q⟩, fun b u q n _ => by rw [upd_ne (hx b n)]; exact n, fun b u q _ => ?_,
    fun b xs q => by rw [upd_ne (hm b _ q fun z => z)]; exact q, fun b u xs q => by rw [upd_ne (hm b _ q fun z => z)]; exact q, fun b ps q => ⟨#[], by rw [upd_ne (hm b _ q fun z => z), q]; simp⟩⟩
  by_cases hbe : b = e
  · subst hbe; exact heo
  · exact ⟨u, k b u hbe q⟩
end

/-! ### the heap without what is tracked -/
def trk (h : Heap) (H : Hp) : List Addr := (List.range h.objs.size).filter fun a => (H a).isSome
def hidT (h : Heap) (H : Hp) : Heap := PySem.W.hideAll h (trk h H)
theorem hidT_size (h : Heap) (H : Hp) : (hidT h H).objs.size = h.objs.size := PySem.W.hideAll_size _ _
theorem hidT_get {h : Heap} {H : Hp} {b : Addr} {o : Obj} (e : h.get? b = some o) (n : H b = none) : (hidT h H).get? b = some o :=
  PySem.W.hideAll_get _ e fun hm => by
    have q : (H b).isSome = true := (List.mem_filter.mp hm).2
    rw [n] at q; simp at q
theorem of_hidT {h : Heap} {H : Hp} {b : Addr} {o : Obj} (e : (hidT h H).get? b = some o) : h.get? b = some o ∧ H b = none := by
  have e' : h.get? b = some o := PySem.W.of_hideAll (trk h H) e
  refine ⟨e', ?_⟩
  cases q : H b with
  | none => rfl
  | some x =>
    have hm : b ∈ trk h H := List.mem_filter.mpr ⟨List.mem_range.mpr (Heap.lt_size e'), by simp [q]⟩
    have z : (hidT h H).get? b = none := PySem.W.hideAll_none (trk h H) hm
    rw [z] at e; cases e

/-! ### OpenK's ledger, filled with every new object but one -/
end L2

namespace L2
open PySem PySem.Spec PyProof.Rows

/-- the module's facts, over the base: the heap at the law's entry without what is tracked there -/
structure Mod (K : PySem.W.Frag) (mg : Str → Option Value) (base : Heap) : Prop where
  kin : K.In base
  glob : base.Ns mainGlobals mg
  blt : ∃ mb, base.Ns builtinsNs mb ∧ ∀ x : Str, x ≠ "__name__" → mb x = bootBuiltins x
  nolimit : base.NoLimit

/-- the context: a def's body (or a comprehension's block) running. base: fixed through the whole law; s₀, H₀: the entry; outer: the frames whose slots others may change (a def's callers); stack: all frames that run;
   ex: iterators that were made ahead of the entry and are walked here (a comprehension's); fn: the names whose cells were made at the entry (a def: all; a comprehension's block: its own); calm: not within an except suite; pn: pins that every state bears; xe: what is wanted of an exception that leaves the code -/
structure Cx where
  prog : Program
  w : World
  K : PySem.W.Frag
  mg : Str → Option Value
  base : Heap
  A : Around
  N : List Str
  s_0 : Shared
  H_0 : Hp
  env : Env
  outer : List Env
  stack : List Env
  ex : List Addr
  fn : Str → Bool
  calm : Bool
  pn : List (Addr × Obj)
  xe : Value → Shared → Prop
/-- the callers' frames -/
def frs (l : List Env) : List Addr := l.filterMap (·.frame)
abbrev Cx.fs (X : Cx) : List Addr := frs X.outer

def Vis (sc : Scope) (x : Str) : Prop := sc.names.lookup x = some .local ∨ sc.names.lookup x = some .cell ∨ sc.names.lookup x = some .free
def Loc (sc : Scope) (x : Str) : Prop := sc.names.lookup x = some .local ∨ sc.names.lookup x = some .cell
def Look (env : Env) (h : Heap) (m : Str → Option Value) (x : Str) (u : Value) : Prop :=
  (env.kindOf x = some .local ∧ m x = some u) ∨ ((env.kindOf x = some .cell ∨ env.kindOf x = some .free) ∧ ∃ c, env.cells.lookup x = some c ∧ h.IsCell c (some u))

structure Cx.Ok (X : Cx) : Prop where
  mod : Mod X.K X.mg X.base
  kind : X.env.scope.kind = .function
  glob : X.env.globals = mainGlobals
  blt : X.env.builtins = builtinsNs
  above : X.s_0.heap.objs.size ≤ X.env.locals
  inj : ∀ x y c, X.env.cells.lookup x = some c → X.env.cells.lookup y = some c → x = y
  has : ∀ x, (X.env.kindOf x = some .cell ∨ X.env.kindOf x = some .free) → ∃ c, X.env.cells.lookup x = some c
  cab : ∀ x c, X.fn x = true → X.env.cells.lookup x = some c → X.s_0.heap.objs.size ≤ c
  hd : X.calm = true → X.A.handled = none
  frames : X.A.frames = some X.stack
  stk : X.stack = X.outer ∨ (X.stack = X.env :: X.outer ∧ X.env.frame = some X.env.locals)
  exf : ∀ b ∈ X.ex, b ≠ X.env.locals ∧ ∀ x c, X.env.cells.lookup x = some c → c ≠ b
  bs : ∀ b o, X.base.get? b = some o → X.s_0.heap.get? b = some o ∧ X.H_0 b = none
  bsz : X.base.objs.size ≤ X.s_0.heap.objs.size
  noex : ∀ b o, X.base.get? b = some o → b ∉ X.ex
  exfs : ∀ b ∈ X.ex, b ∉ X.fs
  funs : X.s_0.heap.FunFrames X.base X.outer
  frf : ∀ b ∈ X.fs, X.H_0 b = none

structure Inv (X : Cx) (pins : List (Addr × Obj)) (σ : List (Option V)) (H : Hp) (s : Shared) : Prop where
  ok : X.Ok
  os : s.os = X.s_0.os
  bare : AllBare s.gens
  base : Un X.fs X.ex X.H_0 H X.s_0.heap s.heap
  loc : ∃ m, s.heap.Ns X.env.locals m ∧ ∀ (i : Nat) (x : Str) (v : V), X.N[i]? = some x → σ[i]? = some (some v) → Vis X.env.scope x → ∃ u, RelV v u ∧ Look X.env s.heap m x u
  cell : ∀ x c, X.env.cells.lookup x = some c → ∃ v, s.heap.IsCell c v
  free : H X.env.locals = none
  freeC : ∀ x c, X.env.cells.lookup x = some c → H c = none
  pin : ∀ p ∈ X.pn ++ pins, s.heap.get? p.1 = some p.2 ∧ H p.1 = none ∧ p.1 ≠ X.env.locals ∧ p.1 ∉ X.fs ∧ ∀ v, p.2.data ≠ .cell v
  hok : HOk X.prog X.w H s.heap
  len : σ.length = X.N.length

section
variable {X : Cx} {pins : List (Addr × Obj)} {σ : List (Option V)} {H H' : Hp} {s : Shared} {h' : Heap}

theorem Cx.Ok.nofr (ok : X.Ok) {b : Addr} {o : Obj} (e : X.base.get? b = some o) : b ∉ X.fs := fun hb => by
  have := (ok.funs.mem hb).1
  rw [e] at this; cases this
theorem Inv.bs (I : Inv X pins σ H s) : ∀ b o, X.base.get? b = some o → s.heap.get? b = some o ∧ H b = none := fun b o e =>
  ⟨I.base.keep b o (I.ok.bs b o e).1 (I.ok.bs b o e).2 (I.ok.nofr e) (I.ok.noex b o e), I.base.free b o (I.ok.bs b o e).1 (I.ok.bs b o e).2 (I.ok.noex b o e)⟩
theorem Inv.bk (I : Inv X pins σ H s) : ∀ b o, X.base.get? b = some o → s.heap.get? b = some o := fun b o e => (I.bs b o e).1
theorem Inv.mod (I : Inv X pins σ H s) : Mod X.K X.mg X.base := I.ok.mod
theorem Inv.kIn (I : Inv X pins σ H s) : X.K.In s.heap := I.ok.mod.kin.keeps I.bk
theorem Inv.lt (I : Inv X pins σ H s) : X.env.locals < s.heap.objs.size := let ⟨_, hn, _⟩ := I.loc; hn.lt
theorem Inv.sz (I : Inv X pins σ H s) : X.s_0.heap.objs.size ≤ s.heap.objs.size := Nat.le_trans I.ok.above (Nat.le_of_lt I.lt)
theorem Inv.nofs (I : Inv X pins σ H s) {a : Addr} (h : s.heap.objs.size ≤ a) : a ∉ X.fs := fun hb => by
  obtain ⟨_, o, ho, _⟩ := I.ok.funs.mem hb
  exact absurd (Nat.lt_of_lt_of_le (Heap.lt_size ho) (Nat.le_trans I.sz h)) (Nat.lt_irrefl _)
theorem Inv.cne (I : Inv X pins σ H s) : ∀ x c, X.env.cells.lookup x = some c → c ≠ X.env.locals := fun x c e z => by
  obtain ⟨v, o, ho, hd⟩ := I.cell x c e
  obtain ⟨m, ⟨o', es, ep, ho', hd', _⟩, _⟩ := I.loc
  rw [z, ho'] at ho; cases ho; rw [hd'] at hd; cases hd
theorem Inv.funs (I : Inv X pins σ H s) : s.heap.FunFrames X.base X.outer := by
  have all : ∀ (l : List Env), (∀ b ∈ frs l, b ∈ X.fs) → X.s_0.heap.FunFrames X.base l → s.heap.FunFrames X.base l := by
    intro l
    induction l with
    | nil => intro _ _; trivial
    | cons env r ih =>
      intro hs hl
      obtain ⟨hk, ⟨L, o, hf, hn, ho, hd⟩, hr⟩ := hl
      have hL : L ∈ X.fs := hs L (by unfold frs; rw [List.filterMap_cons, hf]; exact List.mem_cons_self)
      obtain ⟨sl, e⟩ := I.base.slot L o ho (I.ok.frf L hL) hL fun z => I.ok.exfs L z hL
      exact ⟨hk, ⟨L, _, hf, hn, e, hd⟩, ih (fun b hb => hs b (by unfold frs; rw [List.filterMap_cons, hf]; exact List.mem_cons_of_mem _ hb)) hr⟩
  exact all X.outer (fun _ hb => hb) I.ok.funs

/-- the frames that run, for a call -/
theorem Inv.stack (I : Inv X pins σ H s) : s.heap.FunFrames X.base X.stack := by
  rcases I.ok.stk with e | ⟨e, hf⟩
  · rw [e]; exact I.funs
  · rw [e]
    obtain ⟨m, hn, _⟩ := I.loc
    refine .cons (by rw [I.ok.kind]; decide) hf hn ?_ I.funs
    exact Heap.get?_none_of_le (Nat.le_trans I.ok.bsz I.ok.above)
theorem Inv.stkSub (I : Inv X pins σ H s) : ∀ b ∈ frs X.stack, b ∈ X.env.locals :: X.fs := fun b hb => by
  rcases I.ok.stk with e | ⟨e, hf⟩
  · rw [e] at hb; exact List.mem_cons_of_mem _ hb
  · rw [e] at hb
    unfold frs at hb
    rw [List.filterMap_cons, hf] at hb
    exact hb
theorem Inv.stkFree (I : Inv X pins σ H s) : ∀ b ∈ frs X.stack, H b = none := fun b hb => by
  rcases List.mem_cons.mp (I.stkSub b hb) with e | hb
  · rw [e]; exact I.free
  · obtain ⟨_, o, ho, _⟩ := I.ok.funs.mem hb
    exact I.base.free b o ho (I.ok.frf b hb) fun z => I.ok.exfs b z hb

/-- THE STEP: the untracked objects but the frame and the records at ch are kept (the callers' frames up to slots), the frame's map is kept, the new abstract heap is held -/
theorem Inv.step {g' : Array GenState} {t' : Nat} {d' : Drawn} {ch : List Addr} (I : Inv X pins σ H s)
    (hch : ∀ b ∈ ch, (b ∈ X.ex ∨ X.s_0.heap.objs.size ≤ b) ∧ b ≠ X.env.locals ∧ (∀ x c, X.env.cells.lookup x = some c → c ≠ b) ∧ ∀ p ∈ X.pn ++ pins, p.1 ≠ b)
    (keep : ∀ b o, b ≠ X.env.locals → b ∉ X.fs → b ∉ ch → s.heap.get? b = some o → H b = none → h'.get? b = some o)
    (slot : ∀ b o, b ≠ X.env.locals → b ∈ X.fs → b ∉ ch → s.heap.get? b = some o → H b = none → ∃ sl, h'.get? b = some { o with slots := sl }) (free : ∀ b o, b ∉ ch → s.heap.get? b = some o → H b = none → H' b = none)
    (there : ∀ b o, b ∉ ch → s.heap.get? b = some o → ∃ o', h'.get? b = some o')
    (tups : ∀ b xs, H b = some (.tup xs) → H' b = some (.tup xs)) (frzs : ∀ b o u, H b = some (.frz o u) → H' b = some (.frz o u)) (tbls : ∀ b ps, H b = some (.tbl ps) → ∃ more, H' b = some (.tbl (ps ++ more)))
    (ns : ∀ m, s.heap.Ns X.env.locals m → h'.Ns X.env.locals m) (hok : HOk X.prog X.w H' h') (hg : AllBare g') :
    Inv X pins σ H' { s with heap := h', gens := g', drawn := d', toks := t' } := by
  have neL : ∀ b o, X.s_0.heap.get? b = some o → b ≠ X.env.locals := fun b o e => Nat.ne_of_lt (Nat.lt_of_lt_of_le (Heap.lt_size e) I.ok.above)
  have neC : ∀ b o, X.s_0.heap.get? b = some o → b ∉ X.ex → b ∉ ch := fun b o e hx hb => by
    rcases (hch b hb).1 with z | z
    · exact hx z
    · exact absurd (Nat.lt_of_lt_of_le (Heap.lt_size e) z) (Nat.lt_irrefl _)
  have cellK : ∀ x c, X.env.cells.lookup x = some c → ∀ v, s.heap.IsCell c v → h'.IsCell c v := fun x c e v ⟨o, ho, hd⟩ => by
    have nch : c ∉ ch := fun z => (hch c z).2.2.1 x c e rfl
    by_cases hc : c ∈ X.fs
    · obtain ⟨sl, q⟩ := slot c o (I.cne x c e) hc nch ho (I.freeC x c e)
      exact ⟨_, q, hd⟩
    · exact ⟨o, keep c o (I.cne x c e) hc nch ho (I.freeC x c e), hd⟩
  refine ⟨I.ok, I.os, hg, ⟨fun b o e n hb hx => ?_, fun b o e n hb hx => ?_, fun b o e n hx => ?_, fun b o e hx => ?_, fun b xs e => tups b xs (I.base.tups b xs e), fun b o xs e => frzs b o xs (I.base.frzs b o xs e), fun b ps e => ?_⟩, ?_, fun x c e => ?_, ?_, fun x c e => ?_, fun p hp => ?_, hok, I.len⟩
  · exact keep b o (neL b o e) hb (neC b o e hx) (I.base.keep b o e n hb hx) (I.base.free b o e n hx)
  · obtain ⟨sl, e1⟩ := I.base.slot b o e n hb hx
    obtain ⟨sl', e2⟩ := slot b _ (neL b o e) hb (neC b o e hx) e1 (I.base.free b o e n hx)
    exact ⟨sl', e2⟩
  · obtain ⟨o', e1⟩ := I.base.there b o e hx
    exact free b o' (neC b o e hx) e1 (I.base.free b o e n hx)
  · obtain ⟨o', e1⟩ := I.base.there b o e hx
    exact there b o' (neC b o e hx) e1
  · obtain ⟨m1, e1⟩ := I.base.tbls b ps e
    obtain ⟨m2, e2⟩ := tbls b _ e1
    exact ⟨m1 ++ m2, by rw [e2, Array.append_assoc]⟩
  · obtain ⟨m, hn, hl⟩ := I.loc
    refine ⟨m, ns m hn, fun i x v e1 e2 e3 => ?_⟩
    obtain ⟨u, r, l⟩ := hl i x v e1 e2 e3
    refine ⟨u, r, ?_⟩
    rcases l with l | ⟨k, c, e, z⟩
    · exact .inl l
    · exact .inr ⟨k, c, e, cellK x c e _ z⟩
  · obtain ⟨v, z⟩ := I.cell x c e
    exact ⟨v, cellK x c e v z⟩
  · obtain ⟨m, ⟨o, _, _, ho, _⟩, _⟩ := I.loc
    exact free _ o (fun z => (hch _ z).2.1 rfl) ho I.free
  · obtain ⟨v, o, ho, hd⟩ := I.cell x c e
    exact free c o (fun z => (hch c z).2.2.1 x c e rfl) ho (I.freeC x c e)
  · obtain ⟨e, n, ne, nf, d⟩ := I.pin p hp
    have nch : p.1 ∉ ch := fun z => (hch p.1 z).2.2.2 p hp rfl
    exact ⟨keep p.1 p.2 ne nf nch e n, free p.1 p.2 nch e n, ne, nf, d⟩
/-- .. where the frame's own object is kept too -/
theorem Inv.un {t' : Nat} (I : Inv X pins σ H s) (u : Un X.fs [] H H' s.heap h') (hok : HOk X.prog X.w H' h') : Inv X pins σ H' { s with heap := h', toks := t' } := by
  obtain ⟨m, ⟨o, es, ep, ho, r⟩, _⟩ := id I.loc
  obtain ⟨sl, hL⟩ := u.any ho I.free (by simp)
  exact I.step (g' := s.gens) (d' := s.drawn) (ch := []) (fun _ z => nomatch z) (fun b o _ hb _ e n => u.keep b o e n hb (by simp)) (fun b o _ hb _ e n => u.slot b o e n hb (by simp)) (fun b o _ e n => u.free b o e n (by simp)) (fun b o _ e => u.there b o e (by simp)) u.tups u.frzs u.tbls (fun m' hm => by
    obtain ⟨o', es', ep', ho', r'⟩ := hm
    rw [ho] at ho'; cases ho'
    exact ⟨_, es', ep', hL, r'⟩) hok I.bare
/-- behind a call (or a comprehension's block): the slots of this frame may have changed too, the records at ch may have turned -/
theorem Inv.call {g' : Array GenState} {t' : Nat} {d' : Drawn} {ch : List Addr} (I : Inv X pins σ H s) (u : Un (frs X.stack) ch H H' s.heap h') (hok : HOk X.prog X.w H' h') (hg : AllBare g')
    (hch : ∀ b ∈ ch, (b ∈ X.ex ∨ X.s_0.heap.objs.size ≤ b) ∧ b ≠ X.env.locals ∧ (∀ x c, X.env.cells.lookup x = some c → c ≠ b) ∧ ∀ p ∈ X.pn ++ pins, p.1 ≠ b) :
    Inv X pins σ H' { s with heap := h', gens := g', drawn := d', toks := t' } := by
  obtain ⟨m, ⟨o, es, ep, ho, r⟩, _⟩ := id I.loc
  obtain ⟨sl, hL⟩ := u.any ho I.free fun z => (hch _ z).2.1 rfl
  exact I.step (ch := ch) hch (fun b o hL hb hc e n => u.keep b o e n (fun z => (List.mem_cons.mp (I.stkSub b z)).elim hL hb) hc) (fun b o _ _ hc e n => u.any e n hc) (fun b o hc e n => u.free b o e n hc) (fun b o hc e => u.there b o e hc) u.tups u.frzs u.tbls (fun m' hm => by
    obtain ⟨o', es', ep', ho', r'⟩ := hm
    rw [ho] at ho'; cases ho'
    exact ⟨_, es', ep', hL, r'⟩) hok hg
/-- an untracked record of ours (an iterator) has turned -/
theorem Inv.turned {t' : Nat} {it : Addr} (I : Inv X pins σ H s) (k : ∀ b o, b ≠ it → s.heap.get? b = some o → h'.get? b = some o) (hn : H it = none) (hL : it ≠ X.env.locals)
    (h1 : it ∈ X.ex ∨ X.s_0.heap.objs.size ≤ it) (h2 : ∀ x c, X.env.cells.lookup x = some c → c ≠ it) (h3 : ∀ p ∈ X.pn ++ pins, p.1 ≠ it) : Inv X pins σ H { s with heap := h', toks := t' } := by
  have nit : ∀ b u, H b = some u → b ≠ it := fun b u e z => by rw [z, hn] at e; cases e
  refine I.step (g' := s.gens) (d' := s.drawn) (ch := [it]) (fun b hb => ?_) (fun b o _ _ hc e _ => k b o (fun z => hc (by simp [z])) e) (fun b o _ _ hc e _ => ⟨o.slots, k b o (fun z => hc (by simp [z])) e⟩) (fun _ _ _ _ n => n)
    (fun b o hc e => ⟨o, k b o (fun z => hc (by simp [z])) e⟩) (fun _ _ e => e) (fun _ _ _ e => e) (fun b ps e => ⟨#[], by rw [e]; simp⟩) (fun m hm => ?_) (fun b u e => ?_) I.bare
  · have e : b = it := by simpa using hb
    subst e
    exact ⟨h1, hL, h2, h3⟩
  · obtain ⟨o, es, ep, ho, r⟩ := hm
    exact ⟨o, es, ep, k _ o (Ne.symm hL) ho, r⟩
  · refine (I.hok b u e).stay (fun c v hc q => k c v ?_ q) (fun _ q => q) fun _ _ q => q
    rcases hc with z | z
    · rw [z]; exact nit b u e
    · exact nit c _ z
theorem Inv.tok (I : Inv X pins σ H s) (t : Nat) : Inv X pins σ H { s with toks := t } := I.un (h' := s.heap) (t' := t) Un.refl I.hok
/-- all objects kept -/
theorem Inv.kept {t' : Nat} (I : Inv X pins σ H s) (k : ∀ b u, s.heap.get? b = some u → h'.get? b = some u) : Inv X pins σ H { s with heap := h', toks := t' } := I.un (Un.kept k) (I.hok.kept k)
/-- a new object laid and tracked -/
theorem Inv.laid {a : Addr} {o : HO} {t' : Nat} (I : Inv X pins σ H s) (k : ∀ b u, s.heap.get? b = some u → h'.get? b = some u) (hp : s.heap.objs.size ≤ a) (new : ObjOk X.prog X.w (upd H a o) h' a o) :
    Inv X pins σ (upd H a o) { s with heap := h', toks := t' } := I.un (Un.laid k hp (I.hok.fresh hp)) (I.hok.laid k hp new)
/-- an object written -/
theorem Inv.write {x e : Addr} {o : HO} {t' : Nat} (I : Inv X pins σ H s) (mu : Mut (H x)) (he : e = x ∨ H e = some (.own x)) (k : ∀ b u, b ≠ e → s.heap.get? b = some u → h'.get? b = some u) (heo : ∃ u, h'.get? e = some u)
    (new : ObjOk X.prog X.w (upd H x o) h' x o) : Inv X pins σ (upd H x o) { s with heap := h', toks := t' } := I.un (Un.write mu he k heo) (I.hok.write mu he k heo new)
/-- forgetting slots, pins -/
theorem Inv.weak {σ' : List (Option V)} (I : Inv X pins σ H s) (hl : σ'.length = σ.length) (w : ∀ (i : Nat) v, σ'[i]? = some (some v) → σ[i]? = some (some v)) : Inv X pins σ' H s :=
  ⟨I.ok, I.os, I.bare, I.base, let ⟨m, hn, hl'⟩ := I.loc; ⟨m, hn, fun i x v e1 e2 e3 => hl' i x v e1 (w i v e2) e3⟩, I.cell, I.free, I.freeC, I.pin, I.hok, hl.trans I.len⟩
theorem Inv.pins_of {pins' : List (Addr × Obj)} (I : Inv X pins σ H s) (h : ∀ p ∈ pins', s.heap.get? p.1 = some p.2 ∧ H p.1 = none ∧ p.1 ≠ X.env.locals ∧ p.1 ∉ X.fs ∧ ∀ v, p.2.data ≠ .cell v) : Inv X pins' σ H s :=
  ⟨I.ok, I.os, I.bare, I.base, I.loc, I.cell, I.free, I.freeC, fun p hp => (List.mem_append.mp hp).elim (fun z => I.pin p (List.mem_append_left _ z)) (h p), I.hok, I.len⟩

theorem nodup_ix {N : List Str} (hN : N.Nodup) {i j : Nat} {x : Str} (a : N[i]? = some x) (b : N[j]? = some x) : i = j := by
  obtain ⟨h1, e1⟩ := List.getElem?_eq_some_iff.mp a
  obtain ⟨h2, e2⟩ := List.getElem?_eq_some_iff.mp b
  exact (List.getElem_inj hN).mp (e1.trans e2.symm)

/-- a name is stored; what changed -/
theorem store_ok2 {M : Model} {A : Around} {E : Value → Shared → Prop} {i : Nat} {x : Str} {v : V} {u : Value} {Q : Unit → Shared → Prop} (I : Inv X pins σ H s) (hN : X.N.Nodup) (hi : X.N[i]? = some x) (hx : Loc X.env.scope x) (r : RelV v u)
    (h : ∀ s', Inv X pins (σ.set i (some v)) H s' → (∃ a, Heap.SameBut a s.heap s'.heap ∧ (a = X.env.locals ∨ X.env.cells.lookup x = some a)) → Q () s') (hf : X.fn x = true ∨ X.env.scope.names.lookup x = some .local := by first | exact .inl rfl | exact .inr rfl | assumption) : wpAny M A (storeName X.env x u) Q E s := by
  obtain ⟨m, hn, hl⟩ := id I.loc
  have hcls : (X.env.scope.kind == .class || (X.env.scope.kind == .module && X.env.locals != X.env.globals)) = false := by rw [I.ok.kind]; rfl
  have hiσ : i < σ.length := by rw [I.len]; exact (List.getElem?_eq_some_iff.mp hi).1
  have cne := I.cne
  have tracked : ∀ {a : Addr} {h' : Heap}, (∃ o, s.heap.get? a = some o ∧ H a = none) → Heap.SameBut a s.heap h' → HOk X.prog X.w H h' := fun {a h'} ha hs b ob e => by
    obtain ⟨_, _, hfree⟩ := ha
    refine (I.hok b ob e).stay (fun c w' hc q => (hs.2 c ?_).trans q) (fun _ q => q) fun _ _ q => q
    rintro rfl
    rcases hc with rfl | hc
    · rw [hfree] at e; cases e
    · rw [hfree] at hc; cases hc
  rcases hx with hk | hk
  · refine wpAny_storeName_local hk hn (fun h' hn' hs => ?_) hcls
    obtain ⟨oL, _, _, hoL, _⟩ := id hn
    refine h _ ⟨I.ok, I.os, I.bare, ⟨fun b o e n hb hx => ?_, fun b o e n hb hx => ?_, I.base.free, fun b o e hx => ?_, I.base.tups, I.base.frzs, I.base.tbls⟩, ⟨_, hn', fun j y v' e1 e2 e3 => ?_⟩, fun y c e => ?_, I.free, I.freeC, fun p hp => ?_, tracked ⟨oL, hoL, I.free⟩ hs, by simpa using I.len⟩ ⟨_, hs, .inl rfl⟩
    · exact (hs.2 b (Nat.ne_of_lt (Nat.lt_of_lt_of_le (Heap.lt_size e) I.ok.above))).trans (I.base.keep b o e n hb hx)
    · obtain ⟨sl, e1⟩ := I.base.slot b o e n hb hx
      exact ⟨sl, (hs.2 b (Nat.ne_of_lt (Nat.lt_of_lt_of_le (Heap.lt_size e) I.ok.above))).trans e1⟩
    · obtain ⟨o', e1⟩ := I.base.there b o e hx
      exact ⟨o', (hs.2 b (Nat.ne_of_lt (Nat.lt_of_lt_of_le (Heap.lt_size e) I.ok.above))).trans e1⟩
    · by_cases hj : j = i
      · subst hj
        rw [hi] at e1; cases e1
        rw [List.getElem?_set_self hiσ] at e2
        cases e2
        exact ⟨u, r, .inl ⟨hk, by simp⟩⟩
      · rw [List.getElem?_set_ne (Ne.symm hj)] at e2
        obtain ⟨u', r', q⟩ := hl j y v' e1 e2 e3
        refine ⟨u', r', ?_⟩
        rcases q with ⟨k, e⟩ | ⟨k, c, e, z⟩
        · refine .inl ⟨k, ?_⟩
          have : y ≠ x := fun e => hj (nodup_ix hN e1 (e ▸ hi))
          simp [this, e]
        · exact .inr ⟨k, c, e, z.sameBut hs (cne y c e)⟩
    · obtain ⟨w', z⟩ := I.cell y c e
      exact ⟨w', z.sameBut hs (cne y c e)⟩
    · obtain ⟨e, n, ne, nf, d⟩ := I.pin p hp
      exact ⟨(hs.2 p.1 ne).trans e, n, ne, nf, d⟩
  · have hfn : X.fn x = true := by
      rcases hf with z | z
      · exact z
      · rw [z] at hk; cases hk
    obtain ⟨c, hc⟩ := I.ok.has x (.inl hk)
    obtain ⟨w', z⟩ := I.cell x c hc
    refine wpAny_storeName_cell I.ok.kind hk hc z (fun h' hc' hs => ?_)
    obtain ⟨oc, hoc, hocd⟩ := id z
    refine h { s with heap := h' } ⟨I.ok, I.os, I.bare, ⟨fun b o e n hb hx => ?_, fun b o e n hb hx => ?_, I.base.free, fun b o e hx => ?_, I.base.tups, I.base.frzs, I.base.tbls⟩, ⟨m, hn.sameBut hs (Ne.symm (cne x c hc)), fun j y v' e1 e2 e3 => ?_⟩, fun y c' e => ?_, I.free, I.freeC, fun p hp => ?_, tracked ⟨oc, hoc, I.freeC x c hc⟩ hs, by simpa using I.len⟩ ⟨c, hs, .inr hc⟩
    · exact (hs.2 b (Nat.ne_of_lt (Nat.lt_of_lt_of_le (Heap.lt_size e) (I.ok.cab x c hfn hc)))).trans (I.base.keep b o e n hb hx)
    · obtain ⟨sl, e1⟩ := I.base.slot b o e n hb hx
      exact ⟨sl, (hs.2 b (Nat.ne_of_lt (Nat.lt_of_lt_of_le (Heap.lt_size e) (I.ok.cab x c hfn hc)))).trans e1⟩
    · obtain ⟨o', e1⟩ := I.base.there b o e hx
      exact ⟨o', (hs.2 b (Nat.ne_of_lt (Nat.lt_of_lt_of_le (Heap.lt_size e) (I.ok.cab x c hfn hc)))).trans e1⟩
    · by_cases hj : j = i
      · subst hj
        rw [hi] at e1; cases e1
        rw [List.getElem?_set_self hiσ] at e2
        cases e2
        exact ⟨u, r, .inr ⟨.inl hk, c, hc, hc'⟩⟩
      · rw [List.getElem?_set_ne (Ne.symm hj)] at e2
        obtain ⟨u', r', q⟩ := hl j y v' e1 e2 e3
        refine ⟨u', r', ?_⟩
        rcases q with q | ⟨k, c', e, z'⟩
        · exact .inl q
        · refine .inr ⟨k, c', e, z'.sameBut hs ?_⟩
          rintro rfl
          exact hj (nodup_ix hN e1 (I.ok.inj _ _ _ e hc ▸ hi))
    · by_cases hcc : c' = c
      · subst hcc; exact ⟨_, hc'⟩
      · obtain ⟨w2, z2⟩ := I.cell y c' e
        exact ⟨w2, z2.sameBut hs hcc⟩
    · obtain ⟨e, n, ne, nf, d⟩ := I.pin p hp
      refine ⟨(hs.2 p.1 ?_).trans e, n, ne, nf, d⟩
      intro q
      rw [q, hoc] at e
      have q' : oc = p.2 := Option.some.inj e
      exact d w' (by rw [← q']; exact hocd)
theorem store_ok {M : Model} {A : Around} {E : Value → Shared → Prop} {i : Nat} {x : Str} {v : V} {u : Value} {Q : Unit → Shared → Prop} (I : Inv X pins σ H s) (hN : X.N.Nodup) (hi : X.N[i]? = some x) (hx : Loc X.env.scope x) (r : RelV v u)
    (h : ∀ s', Inv X pins (σ.set i (some v)) H s' → Q () s') (hf : X.fn x = true ∨ X.env.scope.names.lookup x = some .local := by first | exact .inl rfl | exact .inr rfl | assumption) : wpAny M A (storeName X.env x u) Q E s :=
  store_ok2 I hN hi hx r (fun s' I' _ => h s' I') hf
/-- behind a call or a block, the state as it is -/
theorem Inv.call' {s' : Shared} {ch : List Addr} (I : Inv X pins σ H s) (ho : s'.os = s.os) (u : Un (frs X.stack) ch H H' s.heap s'.heap) (hok : HOk X.prog X.w H' s'.heap) (hg : AllBare s'.gens)
    (hch : ∀ b ∈ ch, (b ∈ X.ex ∨ X.s_0.heap.objs.size ≤ b) ∧ b ≠ X.env.locals ∧ (∀ x c, X.env.cells.lookup x = some c → c ≠ b) ∧ ∀ p ∈ X.pn ++ pins, p.1 ≠ b) : Inv X pins σ H' s' := by
  obtain ⟨h', g', d', t', o'⟩ := s'
  have e : o' = s.os := ho
  subst e
  exact I.call (g' := g') (t' := t') (d' := d') u hok hg hch
end

/-! ### the judgements -/
/-- an exception: its class, its own dict's address (where it has one), the abstract heap behind it -/
abbrev XK := Value → Option Addr → Hp → Prop
abbrev St := List (Option V)
abbrev VK := V → Hp → Prop
/-- an expression's reading; a test's; an argument list's -/
abbrev TE := St → Hp → VK → Prop
abbrev TT := St → Hp → (Bool → Hp → Prop) → Prop
abbrev TA := St → Hp → (List V → Hp → Prop) → Prop
/-- what is wanted behind a statement -/
structure Ends where
  nx : St → Hp → Prop
  rt : VK
  bk : St → Hp → Prop := fun _ _ => False
  ct : St → Hp → Prop := fun _ _ => False
abbrev TS := Ends → St → Hp → Prop

def EP (X : Cx) (pins : List (Addr × Obj)) (σ : St) (Q : VK) (u : Value) (s' : Shared) : Prop := ∃ v H', Inv X pins σ H' s' ∧ RelV v u ∧ Q v H'
def TP (X : Cx) (pins : List (Addr × Obj)) (σ : St) (Q : Bool → Hp → Prop) (b : Bool) (s' : Shared) : Prop := ∃ H', Inv X pins σ H' s' ∧ Q b H'
def AP (X : Cx) (pins : List (Addr × Obj)) (σ : St) (Q : List V → Hp → Prop) (us : List Value) (s' : Shared) : Prop := ∃ vs H', Inv X pins σ H' s' ∧ Vals vs us ∧ Q vs H'
def SP (X : Cx) (pins : List (Addr × Obj)) (D : Ends) (f : Flow) (s' : Shared) : Prop :=
  match f with
  | .next => ∃ σ' H', Inv X pins σ' H' s' ∧ D.nx σ' H'
  | .brk => ∃ σ' H', Inv X pins σ' H' s' ∧ D.bk σ' H'
  | .cont => ∃ σ' H', Inv X pins σ' H' s' ∧ D.ct σ' H'
  | .ret u => ∃ v σ' H', Inv X pins σ' H' s' ∧ RelV v u ∧ D.rt v H'

def PE (X : Cx) (e : Expr) (t : TE) : Prop :=
  ∀ (pins : List (Addr × Obj)) (s : Shared) (σ : St) (H : Hp) (Q : VK), Inv X pins σ H s → t σ H Q → wpAny (model X.prog X.w) X.A (eval e X.env) (EP X pins σ Q) X.xe s
def PT (X : Cx) (e : Expr) (t : TT) : Prop :=
  ∀ (pins : List (Addr × Obj)) (s : Shared) (σ : St) (H : Hp) (Q : Bool → Hp → Prop), Inv X pins σ H s → t σ H Q → wpAny (model X.prog X.w) X.A (isTrue e X.env (eval e X.env)) (TP X pins σ Q) X.xe s
/-- a test whatever its 'whole' is (and, or) -/
def PW (X : Cx) (e : Expr) (t : TT) : Prop :=
  ∀ (whole : Sem Value) (pins : List (Addr × Obj)) (s : Shared) (σ : St) (H : Hp) (Q : Bool → Hp → Prop), Inv X pins σ H s → t σ H Q → wpAny (model X.prog X.w) X.A (isTrue e X.env whole) (TP X pins σ Q) X.xe s
theorem PW.pt {X : Cx} {e : Expr} {t : TT} (h : PW X e t) : PT X e t := h _
/-- an argument list (no star), from the left -/
def PA (X : Cx) (es : List Expr) (t : TA) : Prop :=
  ∀ (pos : Pos) (pins : List (Addr × Obj)) (s : Shared) (σ : St) (H : Hp) (Q : List V → Hp → Prop), Inv X pins σ H s → t σ H Q → wpAny (model X.prog X.w) X.A (spliced (backTo pos (starEach es X.env))) (AP X pins σ Q) X.xe s
def PS (X : Cx) (st : Stmt) (t : TS) : Prop :=
  ∀ (pins : List (Addr × Obj)) (s : Shared) (σ : St) (H : Hp) (D : Ends), Inv X pins σ H s → t D σ H → wpAny (model X.prog X.w) X.A (exec st X.env) (SP X pins D) X.xe s
def PSs (X : Cx) (st : List Stmt) (t : TS) : Prop :=
  ∀ (pins : List (Addr × Obj)) (s : Shared) (σ : St) (H : Hp) (D : Ends), Inv X pins σ H s → t D σ H → wpAny (model X.prog X.w) X.A (execs st X.env) (SP X pins D) X.xe s
/-- weaken the end -/
theorem thn {α : Type} {t : Sem α} {Q Q' : α → Shared → Prop} {M : Model} {A : Around} {E : Value → Shared → Prop} {s : Shared} (h : wpAny M A t Q E s) (hQ : ∀ a s, Q a s → Q' a s) : wpAny M A t Q' E s := wpAny_mono h hQ fun _ _ x => x
end L2

namespace L2
open PySem PySem.Spec PyProof.Rows
section
variable {X : Cx}

/-! ### names and constants -/
def tVar (i : Nat) : TE := fun σ H Q => ∃ v, σ[i]? = some (some v) ∧ Q v H
def tC (v : V) : TE := fun _ H Q => Q v H
theorem pe_var {i : Nat} {x : Str} {pos : Pos} (hN : X.N[i]? = some x) (hv : Vis X.env.scope x) (hd : (x == ("__debug__" : Str)) = false := by decide) (hcd : (x == ("__classdict__" : Str)) = false := by decide) : PE X (.Name x pos) (tVar i) := by
  intro pins s σ H Q I h
  obtain ⟨v, e, h⟩ := h
  obtain ⟨m, hn, hl⟩ := I.loc
  obtain ⟨u, r, l⟩ := hl i x v hN e hv
  have fin : EP X pins σ Q u s := ⟨v, H, I, r, h⟩
  rcases l with ⟨hk, hm⟩ | ⟨hk, c, hc, hcell⟩
  · exact wpAny_Name (wpAny_loadName_local I.ok.kind hk hn hm fin) hd
  · rcases hk with hk | hk
    · exact wpAny_Name (wpAny_loadName_cell I.ok.kind hk hc hcell fin) hd
    · exact wpAny_Name (wpAny_loadName_free I.ok.kind hk hc hcell fin hcd) hd
theorem pe_int {i j pos} : PE X (.Constant (.int i) j pos) (tC (.int i)) := fun _ _ _ H _ I h => wpAny_Constant_int ⟨.int i, H, I.tok _, ⟨_, rfl⟩, h⟩
theorem pe_bl {b j pos} : PE X (.Constant (.bool b) j pos) (tC (.bl b)) := fun _ _ _ H _ I h => Constant_bool ⟨.bl b, H, I, rfl, h⟩
theorem pe_non {j pos} : PE X (.Constant .none j pos) (tC .non) := fun _ _ _ H _ I h => Constant_none ⟨.non, H, I, rfl, h⟩
/-- a global name of the def -/
def Gl (X : Cx) (x : Str) : Prop := X.env.kindOf x = some .globalImplicit
theorem ld_glob {E : Value → Shared → Prop} {pins : List (Addr × Obj)} {s : Shared} {σ : St} {H : Hp} {x : Str} {u : Value} {pos : Pos} {Q : Value → Shared → Prop} (I : Inv X pins σ H s) (hg : Gl X x) (hm : X.mg x = some u) (h : Q u s)
    (hd : (x == ("__debug__" : Str)) = false := by decide) : wpAny (model X.prog X.w) X.A (eval (.Name x pos) X.env) Q E s :=
  Calls.Name_function_global I.ok.kind hg (Calls.loadGlobal_global (by rw [I.ok.glob]; exact I.mod.glob.keeps I.bk) hm h) hd
theorem ld_blt {E : Value → Shared → Prop} {pins : List (Addr × Obj)} {s : Shared} {σ : St} {H : Hp} {x : Str} {u : Value} {pos : Pos} {Q : Value → Shared → Prop} (I : Inv X pins σ H s) (hg : Gl X x) (hm : X.mg x = none) (hv : bootBuiltins x = some u) (h : Q u s)
    (hn : x ≠ "__name__" := by decide) (hd : (x == ("__debug__" : Str)) = false := by decide) : wpAny (model X.prog X.w) X.A (eval (.Name x pos) X.env) Q E s := by
  obtain ⟨mb, h1, h2⟩ := I.mod.blt
  exact Calls.Name_function_global I.ok.kind hg (Calls.loadGlobal_builtin (by rw [I.ok.glob]; exact I.mod.glob.keeps I.bk) hm (by rw [I.ok.blt]; exact h1.keeps I.bk) ((h2 x hn).trans hv) h) hd
/-- a module's constant, a class, a function, as a value -/
theorem pe_glob {x : Str} {v : V} {u : Value} {pos : Pos} (hg : Gl X x) (hm : X.mg x = some u) (r : RelV v u) (hd : (x == ("__debug__" : Str)) = false := by decide) : PE X (.Name x pos) (tC v) :=
  fun _ _ _ H _ I h => ld_glob I hg hm ⟨v, H, I, r, h⟩ hd
/-! ### arithmetic -/
variable {a b : Expr} {ta tb : TE} {pos : Pos}
/-! ### comparisons -/
def PC (X : Cx) (op : CmpOp) (a b : Expr) (t : TE) : Prop :=
  ∀ (pins : List (Addr × Obj)) (s : Shared) (σ : St) (H : Hp) (Q : VK), Inv X pins σ H s → t σ H Q →
    wpAny (model X.prog X.w) X.A (eval a X.env) (fun v s₁ => wpAny (model X.prog X.w) X.A (eval b X.env) (fun u s₂ => wpAny (model X.prog X.w) X.A (compareOp op v u) (EP X pins σ Q) X.xe s₂) X.xe s₁) X.xe s
theorem nobehind (b : Expr) {op : CmpOp} (h : op ≠ .In) (h2 : op ≠ .NotIn) : behindInMarks op b = false := by
  have e1 : (op == CmpOp.In) = false := by cases op <;> first | rfl | exact absurd rfl h
  have e2 : (op == CmpOp.NotIn) = false := by cases op <;> first | rfl | exact absurd rfl h2
  cases b <;> simp [behindInMarks, e1, e2]
/-- is None -/
def tIsN (ta : TE) : TE := fun σ H Q => ta σ H fun x H1 => Q (.bl (decide (x = .non))) H1
def tNotN (ta : TE) : TE := fun σ H Q => ta σ H fun x H1 => Q (.bl (!decide (x = .non))) H1
theorem RelV.none_iff {x : V} {v : Value} (r : RelV x v) : (v == Value.none) = decide (x = .non) := by
  cases x with
  | non => cases r; rfl
  | bl _ => cases r; rfl
  | int _ => obtain ⟨t, rfl⟩ := r; rfl
  | str _ => obtain ⟨t, rfl⟩ := r; rfl
  | byt _ => obtain ⟨t, rfl⟩ := r; rfl
  | flt _ => obtain ⟨t, rfl⟩ := r; rfl
  | ref _ => cases r; rfl
  | ty _ => cases r; rfl
theorem pc_isN {j pos'} (ha : PE X a ta) : PC X .Is a (.Constant .none j pos') (tIsN ta) := by
  intro pins s σ H Q I h
  refine thn (ha pins s σ H _ I h) fun v s1 ⟨x, H1, I1, r1, q1⟩ => ?_
  exact Constant_none (is_none_gen ⟨.bl _, H1, I1, by rw [r1.none_iff]; rfl, q1⟩)
theorem pc_notN {j pos'} (ha : PE X a ta) : PC X .IsNot a (.Constant .none j pos') (tNotN ta) := by
  intro pins s σ H Q I h
  refine thn (ha pins s σ H _ I h) fun v s1 ⟨x, H1, I1, r1, q1⟩ => ?_
  exact Constant_none (isnot_none_gen ⟨.bl _, H1, I1, by rw [r1.none_iff]; rfl, q1⟩)
/-- a comparison as a value, as a test -/
def tB (t : TE) : TT := fun σ H Q => t σ H fun x H1 => ∃ c, x = .bl c ∧ Q c H1
theorem pe_cmp {op : CmpOp} {t : TE} (h : PC X op a b t) (h1 : behindInMarks op b = false := by first | exact nobehind _ (by decide) (by decide) | rfl) : PE X (.Compare a [op] [b] pos) t := fun pins s σ H Q I hw => wpAny_Compare1 (h pins s σ H Q I hw) h1
theorem pt_cmp {op : CmpOp} {t : TE} (h : PC X op a b t) (h1 : behindInMarks op b = false := by first | exact nobehind _ (by decide) (by decide) | rfl) : PT X (.Compare a [op] [b] pos) (tB t) := by
  intro pins s σ H Q I hw
  refine wpAny_isTrue_Compare1 (thn (h pins s σ H _ I hw) fun v s1 h1 => thn h1 fun u s2 h2 => thn h2 fun c s3 ⟨x, H1, I1, r1, q1⟩ => ?_) h1
  obtain ⟨d, rfl, q⟩ := q1
  cases r1
  exact wpAny_truthy_bool ⟨H1, I1, q⟩
/-- an expression whose value is a bool, as a test -/
theorem pt_val {e : Expr} {t : TE} (h : PE X e t) (he : ∀ whole, isTrue e X.env whole = (do let v ← whole; standAt e.pos; holding [v] (truthy v)) := by intro _; rfl) : PT X e (tB t) := by
  intro pins s σ H Q I hw
  refine isTrue_plain (thn (h pins s σ H _ I hw) fun v s1 ⟨x, H1, I1, r1, q1⟩ => ?_) (he _)
  obtain ⟨d, rfl, q⟩ := q1
  cases r1
  exact wpAny_truthy_bool ⟨H1, I1, q⟩

/-! ### and, or, not -/
variable {tA tB' : TT} {rest : List Expr}
def tAnd (t u : TT) : TT := fun σ H Q => t σ H fun c H1 => if c = true then u σ H1 Q else Q false H1
def tOr (t u : TT) : TT := fun σ H Q => t σ H fun c H1 => if c = true then Q true H1 else u σ H1 Q
def tNot (t : TT) : TT := fun σ H Q => t σ H fun c H1 => Q (!c) H1
theorem pw_and1 (ha : PT X a tA) : PW X (.BoolOp .And [a] pos) tA := by
  intro wh pins s σ H Q I h
  refine isTrue_and (thn (ha pins s σ H Q I h) fun c s1 e => ?_)
  cases c with
  | true => exact isTrue_and_nil e
  | false => exact e
theorem pw_or1 (ha : PT X a tA) : PW X (.BoolOp .Or [a] pos) tA := by
  intro wh pins s σ H Q I h
  refine isTrue_or (thn (ha pins s σ H Q I h) fun c s1 e => ?_)
  cases c with
  | false => exact isTrue_or_nil e
  | true => exact e
theorem pw_and (ha : PT X a tA) (hb : PW X (.BoolOp .And (b :: rest) pos) tB') : PW X (.BoolOp .And (a :: b :: rest) pos) (tAnd tA tB') := by
  intro wh pins s σ H Q I h
  refine isTrue_and (thn (ha pins s σ H _ I h) fun c s1 ⟨H1, I1, q1⟩ => ?_)
  cases c with
  | true => exact hb wh pins s1 σ H1 Q I1 q1
  | false => exact ⟨H1, I1, q1⟩
theorem pw_or (ha : PT X a tA) (hb : PW X (.BoolOp .Or (b :: rest) pos) tB') : PW X (.BoolOp .Or (a :: b :: rest) pos) (tOr tA tB') := by
  intro wh pins s σ H Q I h
  refine isTrue_or (thn (ha pins s σ H _ I h) fun c s1 ⟨H1, I1, q1⟩ => ?_)
  cases c with
  | true => exact ⟨H1, I1, q1⟩
  | false => exact hb wh pins s1 σ H1 Q I1 q1
theorem pt_not (ha : PT X a tA) : PT X (.UnaryOp .Not a pos) (tNot tA) := by
  intro pins s σ H Q I h
  exact isTrue_not (ha pins s σ H (fun c H1 => Q (!c) H1) I h)
/-- .. as values (bools) -/
def tAndV (ta tb : TE) : TE := fun σ H Q => ta σ H fun x H1 => ∃ c, x = .bl c ∧ if c = true then tb σ H1 Q else Q (.bl false) H1
def tOrV (ta tb : TE) : TE := fun σ H Q => ta σ H fun x H1 => ∃ c, x = .bl c ∧ if c = true then Q (.bl true) H1 else tb σ H1 Q
def tNotV (ta : TE) : TE := fun σ H Q => ta σ H fun x H1 => ∃ c, x = .bl c ∧ Q (.bl (!c)) H1
theorem pe_one {op} {t : TE} (h : PE X a t) : PE X (.BoolOp op [a] pos) t := fun pins s σ H Q I hw => BoolOp_one (h pins s σ H Q I hw)
theorem pe_and (ha : PE X a ta) (hb : PE X (.BoolOp .And (b :: rest) pos) tb) : PE X (.BoolOp .And (a :: b :: rest) pos) (tAndV ta tb) := by
  intro pins s σ H Q I h
  refine BoolOp_and (thn (ha pins s σ H _ I h) fun v s1 ⟨x, H1, I1, r1, q1⟩ => ?_)
  obtain ⟨c, rfl, q1⟩ := q1
  cases r1
  refine wpAny_truthy_bool ?_
  cases c with
  | true => exact hb pins s1 σ H1 Q I1 q1
  | false => exact ⟨.bl false, H1, I1, rfl, q1⟩
theorem pe_or (ha : PE X a ta) (hb : PE X (.BoolOp .Or (b :: rest) pos) tb) : PE X (.BoolOp .Or (a :: b :: rest) pos) (tOrV ta tb) := by
  intro pins s σ H Q I h
  refine BoolOp_or (thn (ha pins s σ H _ I h) fun v s1 ⟨x, H1, I1, r1, q1⟩ => ?_)
  obtain ⟨c, rfl, q1⟩ := q1
  cases r1
  refine wpAny_truthy_bool ?_
  cases c with
  | false => exact hb pins s1 σ H1 Q I1 q1
  | true => exact ⟨.bl true, H1, I1, rfl, q1⟩
theorem pe_not (ha : PE X a ta) : PE X (.UnaryOp .Not a pos) (tNotV ta) := by
  intro pins s σ H Q I h
  refine UnaryOp_ (thn (ha pins s σ H _ I h) fun v s1 ⟨x, H1, I1, r1, q1⟩ => ?_)
  obtain ⟨c, rfl, q1⟩ := q1
  cases r1
  exact not_of (wpAny_truthy_bool ⟨.bl (!c), H1, I1, rfl, q1⟩)
/-- a if t else b -/
def tIf (t : TT) (ta tb : TE) : TE := fun σ H Q => t σ H fun c H1 => if c = true then ta σ H1 Q else tb σ H1 Q
theorem pe_ifExp {c : Expr} (hc : PT X c tA) (ha : PE X a ta) (hb : PE X b tb) : PE X (.IfExp c a b pos) (tIf tA ta tb) := by
  intro pins s σ H Q I h
  refine wpAny_IfExp (thn (hc pins s σ H _ I h) fun d s1 ⟨H1, I1, q1⟩ => ?_)
  cases d with
  | true => exact ha pins s1 σ H1 Q I1 q1
  | false => exact hb pins s1 σ H1 Q I1 q1
end
end L2

namespace L2
open PySem PySem.Spec PyProof.Rows

/-! ### a list, a tuple that is read: tracked, frozen, or an object of the module -/
def SqL (K : PySem.W.Frag) (H : Hp) (a : Addr) (xs : List V) : Prop :=
  Rd H a (.lst xs) ∨
    ∃ (o : Obj) (its : Array Value) (n : Nat), K.lookup a = some o ∧ o.cls = .type "list" ∧ o.dict = none ∧ o.data = .seq its n ∧ its.size ≤ sizeLine ∧ Vals xs its.toList
def SqT (K : PySem.W.Frag) (H : Hp) (a : Addr) (xs : List V) : Prop :=
  Rd H a (.tup xs) ∨
    ∃ (o : Obj) (its : Array Value) (n : Nat), K.lookup a = some o ∧ o.cls = .type "tuple" ∧ o.data = .seq its n ∧ its.size ≤ sizeLine ∧ Vals xs its.toList
def absV : Value → Option V
  | .none => some .non
  | .bool b => some (.bl b)
  | .int i _ => some (.int i)
  | .str x _ => some (.str x)
  | .bytes b _ => some (.byt b)
  | .float b _ => some (.flt b)
  | .ref a => some (.ref a)
  | .type n => some (.ty n)
  | _ => none
theorem RelV.abs {x : V} {u : Value} (r : RelV x u) : absV u = some x := by
  cases x with
  | non => cases r; rfl
  | bl _ => cases r; rfl
  | int _ => obtain ⟨t, rfl⟩ := r; rfl
  | str _ => obtain ⟨t, rfl⟩ := r; rfl
  | byt _ => obtain ⟨t, rfl⟩ := r; rfl
  | flt _ => obtain ⟨t, rfl⟩ := r; rfl
  | ref _ => cases r; rfl
  | ty _ => cases r; rfl
theorem RelV.inj {x y : V} {u : Value} (r : RelV x u) (q : RelV y u) : x = y := Option.some.inj (r.abs.symm.trans q.abs)
theorem Vals.inj : ∀ {xs ys : List V} {us : List Value}, Vals xs us → Vals ys us → xs = ys
  | _, _, _, .nil, .nil => rfl
  | _, _, _, .cons r t, .cons r' t' => by rw [r.inj r', Vals.inj t t']
section
variable {X : Cx} {pins : List (Addr × Obj)} {σ : St} {H : Hp} {s : Shared} {a : Addr} {xs ys : List V}
theorem SqL.of {K : PySem.W.Frag} (h : H a = some (.lst xs)) : SqL K H a xs := .inl (.inl h)
theorem SqT.of {K : PySem.W.Frag} (h : H a = some (.tup xs)) : SqT K H a xs := .inl (.inl h)
theorem Inv.list (I : Inv X pins σ H s) (h : SqL X.K H a xs) : ∃ its : List Value, Vals xs its ∧ PlainL s.heap a its.toArray ∧ xs.length ≤ sizeLine := by
  rcases h with h | ⟨o, its, n, hk, hc, hd, hs, hz, r⟩
  · obtain ⟨z, its, n, r, e⟩ := h.ok I.hok
    exact ⟨its, r, ⟨_, n, e, rfl, rfl, rfl⟩, z⟩
  · refine ⟨its.toList, r, ⟨o, n, I.kIn a o hk, hc, hd, by simpa using hs⟩, ?_⟩
    have e := r.length
    simp only [Array.length_toList] at e
    omega
theorem Inv.tuple (I : Inv X pins σ H s) (h : SqT X.K H a xs) : ∃ its : List Value, Vals xs its ∧ IsTup s.heap a its.toArray ∧ xs.length ≤ sizeLine := by
  rcases h with h | ⟨o, its, n, hk, hc, hs, hz, r⟩
  · obtain ⟨z, its, r, p⟩ := h.ok I.hok
    exact ⟨its, r, p, z⟩
  · refine ⟨its.toList, r, ⟨o, I.kIn a o hk, hc, n, by simpa using hs⟩, ?_⟩
    have e := r.length
    simp only [Array.length_toList] at e
    omega
theorem Inv.list_inj (I : Inv X pins σ H s) (h : SqL X.K H a xs) (h' : SqL X.K H a ys) : xs = ys := by
  obtain ⟨its, r, ⟨o, n, e, _, _, d⟩, _⟩ := I.list h
  obtain ⟨its', r', ⟨o', n', e', _, _, d'⟩, _⟩ := I.list h'
  rw [e] at e'; cases e'
  rw [d] at d'
  injection d' with d1 _
  have : its = its' := by simpa using congrArg Array.toList d1
  subst this
  exact r.inj r'
end

/-! ### another wish about exceptions -/
abbrev Cx.wish (X : Cx) (E : Value → Shared → Prop) : Cx := { X with xe := E }
/-- no exception leaves -/
abbrev Cx.nox (X : Cx) : Cx := X.wish fun _ _ => False
theorem Cx.Ok.wish {X : Cx} (ok : X.Ok) (E : Value → Shared → Prop) : (X.wish E).Ok :=
  ⟨ok.mod, ok.kind, ok.glob, ok.blt, ok.above, ok.inj, ok.has, ok.cab, ok.hd, ok.frames, ok.stk, ok.exf, ok.bs, ok.bsz, ok.noex, ok.exfs, ok.funs, ok.frf⟩
theorem Cx.Ok.unwish {X : Cx} {E : Value → Shared → Prop} (ok : (X.wish E).Ok) : X.Ok :=
  ⟨ok.mod, ok.kind, ok.glob, ok.blt, ok.above, ok.inj, ok.has, ok.cab, ok.hd, ok.frames, ok.stk, ok.exf, ok.bs, ok.bsz, ok.noex, ok.exfs, ok.funs, ok.frf⟩
section
variable {X : Cx} {pins : List (Addr × Obj)} {σ : St} {H : Hp} {s : Shared} {E : Value → Shared → Prop}
theorem Inv.wish (I : Inv X pins σ H s) (E : Value → Shared → Prop) : Inv (X.wish E) pins σ H s := ⟨I.ok.wish E, I.os, I.bare, I.base, I.loc, I.cell, I.free, I.freeC, I.pin, I.hok, I.len⟩
theorem Inv.unwish (I : Inv (X.wish E) pins σ H s) : Inv X pins σ H s := ⟨I.ok.unwish, I.os, I.bare, I.base, I.loc, I.cell, I.free, I.freeC, I.pin, I.hok, I.len⟩
theorem SP.unwish {D : Ends} {f : Flow} {s' : Shared} (h : SP (X.wish E) pins D f s') : SP X pins D f s' := by
  cases f with
  | next => obtain ⟨σ', H', I, q⟩ := h; exact ⟨σ', H', I.unwish, q⟩
  | brk => obtain ⟨σ', H', I, q⟩ := h; exact ⟨σ', H', I.unwish, q⟩
  | cont => obtain ⟨σ', H', I, q⟩ := h; exact ⟨σ', H', I.unwish, q⟩
  | ret u => obtain ⟨v, σ', H', I, r, q⟩ := h; exact ⟨v, σ', H', I.unwish, r, q⟩
theorem PSs.nox {st : List Stmt} {t : TS} (h : PSs X.nox st t) : PSs X st t := fun pins s σ H D I hw =>
  wpAny_mono (h pins s σ H D (I.wish _) hw) (fun _ _ q => q.unwish) fun _ _ z => False.elim z
end

/-! ### blocks and small statements -/
section
variable {X : Cx} {st : Stmt} {rest : List Stmt} {t u : TS} {e : Expr} {te : TE} {pos : Pos}
def tNext : TS := fun D σ H => D.nx σ H
def tSeq (t u : TS) : TS := fun D σ H => t { D with nx := u D } σ H
theorem pss_nil : PSs X [] tNext := fun _ _ σ H _ I h => wpAny_execs_nil ⟨σ, H, I, h⟩
theorem pss_cons (h1 : PS X st t) (h2 : PSs X rest u) : PSs X (st :: rest) (tSeq t u) := by
  intro pins s σ H D I h
  refine wpAny_execs_cons (thn (h1 pins s σ H { D with nx := u D } I h) fun f s1 q => ?_)
  cases f with
  | next =>
    obtain ⟨σ', H', I', q⟩ := q
    exact h2 pins s1 σ' H' D I' q
  | ret v => exact q
  | brk => exact q
  | cont => exact q
theorem pss_one (h1 : PS X st t) : PSs X [st] t := by
  intro pins s σ H D I h
  refine wpAny_execs_cons (thn (h1 pins s σ H D I h) fun f s1 q => ?_)
  cases f with
  | next => exact wpAny_execs_nil q
  | ret v => exact q
  | brk => exact q
  | cont => exact q
def tCont : TS := fun D σ H => D.ct σ H
theorem ps_continue : PS X (.Continue pos) tCont := fun _ _ σ H _ I h => wpAny_Continue ⟨σ, H, I, h⟩
/-- in a def's body nothing is shown -/
theorem Inv.quiet {pins : List (Addr × Obj)} {σ : St} {H : Hp} {s : Shared} (I : Inv X pins σ H s) : interactive X.env = false := by simp [interactive, I.ok.kind]
/-- an expression whose value is dropped -/
def tDrop (te : TE) : TS := fun D σ H => te σ H fun _ H1 => D.nx σ H1
theorem ps_expr (he : PE X e te) (hs : swapsWith e none pos.line X.env = pure false := by rfl) : PS X (.Expr e pos) (tDrop te) := by
  intro pins s σ H D I h
  exact wpAny_Expr_any (thn (he pins s σ H _ I h) fun v s1 ⟨x, H1, I1, r1, q1⟩ => ⟨σ, H1, I1, q1⟩) I.quiet hs
def tRet (te : TE) : TS := fun D σ H => te σ H D.rt
theorem ps_ret (he : PE X e te) : PS X (.Return (some e) pos) (tRet te) := by
  intro pins s σ H D I h
  exact wpAny_Return_some (thn (he pins s σ H _ I h) fun v s1 ⟨x, H1, I1, r1, q1⟩ => ⟨x, σ, H1, I1, r1, q1⟩)
def tIfS (c : TT) (t u : TS) : TS := fun D σ H => c σ H fun b H1 => if b = true then t D σ H1 else u D σ H1
theorem ps_if {c : Expr} {a b : List Stmt} {tc : TT} (hc : PT X c tc) (ha : PSs X a t) (hb : PSs X b u) : PS X (.If c a b pos) (tIfS tc t u) := by
  intro pins s σ H D I h
  refine wpAny_If (thn (hc pins s σ H _ I h) fun d s1 ⟨H1, I1, q1⟩ => ?_)
  cases d with
  | true => exact ha pins s1 σ H1 D I1 q1
  | false => exact hb pins s1 σ H1 D I1 q1
end

/-! ### targets -/
abbrev TG := V → St → Hp → (St → Hp → Prop) → Prop
abbrev TGs := List V → St → Hp → (St → Hp → Prop) → Prop
def PG (X : Cx) (target : Expr) (t : TG) : Prop :=
  ∀ (pins : List (Addr × Obj)) (s : Shared) (σ : St) (H : Hp) (v : V) (u : Value) (Q : St → Hp → Prop), Inv X pins σ H s → RelV v u → t v σ H Q →
    wpAny (model X.prog X.w) X.A (assign target X.env u) (fun _ s' => ∃ σ' H', Inv X pins σ' H' s' ∧ Q σ' H') X.xe s
/-- several targets, one after another -/
def PGs (X : Cx) (ts : List Expr) (t : TGs) : Prop :=
  ∀ (pins : List (Addr × Obj)) (s : Shared) (σ : St) (H : Hp) (vs : List V) (us : List Value) (Q : St → Hp → Prop), Inv X pins σ H s → Vals vs us → t vs σ H Q →
    wpAny (model X.prog X.w) X.A (assignInOrder ((assignEach ts X.env).map (·.2)) us) (fun _ s' => ∃ σ' H', Inv X pins σ' H' s' ∧ Q σ' H') X.xe s
/-- a op= b, by values -/
abbrev TIp := V → V → Hp → VK → Prop
def PIp (X : Cx) (op : Operator) (t : TIp) : Prop :=
  ∀ (pins : List (Addr × Obj)) (s : Shared) (σ : St) (H : Hp) (x y : V) (v u : Value) (Q : VK), Inv X pins σ H s → RelV x v → RelV y u → t x y H Q →
    wpAny (model X.prog X.w) X.A (inplaceOp op v u) (EP X pins σ Q) X.xe s
section
variable {X : Cx} {pos : Pos}
def gName (i : Nat) : TG := fun v σ H Q => Q (σ.set i (some v)) H
theorem pg_name {i : Nat} {x : Str} (hN : X.N.Nodup) (hi : X.N[i]? = some x) (hx : Loc X.env.scope x) (hf : X.fn x = true ∨ X.env.scope.names.lookup x = some .local := by first | exact .inl rfl | exact .inr rfl | assumption) : PG X (.Name x pos) (gName i) := by
  intro pins s σ H v u Q I r h
  exact wpAny_assign_Name (store_ok I hN hi hx r (fun s' I' => ⟨_, H, I', h⟩) hf)
def gNil : TGs := fun vs σ H Q => vs = [] ∧ Q σ H
def gCons (t : TG) (u : TGs) : TGs := fun vs σ H Q => ∃ v r, vs = v :: r ∧ t v σ H fun σ' H' => u r σ' H' Q
theorem pgs_nil : PGs X [] gNil := by
  intro pins s σ H vs us Q I r h
  obtain ⟨e, h⟩ := h
  subst e
  cases r
  exact assignInOrder_nil ⟨σ, H, I, h⟩
theorem pgs_cons {e : Expr} {es : List Expr} {t : TG} {u : TGs} (h1 : PG X e t) (h2 : PGs X es u)
    (hs : (assignEach (e :: es) X.env).map (·.2) = assign e X.env :: (assignEach es X.env).map (·.2) := by rfl) : PGs X (e :: es) (gCons t u) := by
  intro pins s σ H vs us Q I r h
  obtain ⟨v, vr, e1, h⟩ := h
  subst e1
  cases r with
  | cons r rr =>
    rw [hs]
    refine assignInOrder_cons (thn (h1 pins s σ H _ _ _ I r h) fun _ s1 ⟨σ1, H1, I1, q1⟩ => ?_)
    exact h2 pins s1 σ1 H1 _ _ Q I1 rr q1
/-- (a, b, ..) = a tuple of that length -/
def gTup (K : PySem.W.Frag) (n : Nat) (t : TGs) : TG := fun v σ H Q => ∃ a xs, v = .ref a ∧ SqT K H a xs ∧ xs.length = n ∧ t xs σ H Q
theorem pg_tup {es : List Expr} {k : Nat} {t : TGs} {n : Nat} (hc : X.calm = true) (h : PGs X es t)
    (hn : (assignEach es X.env).length = n := by rfl) (hst : (assignEach es X.env).findIdx? (·.1) = none := by rfl) : PG X (.Tuple es k pos) (gTup X.K n t) := by
  intro pins s σ H v u Q I r hw
  obtain ⟨a, xs, e1, hq, hl, hw⟩ := hw
  subst e1
  cases r
  obtain ⟨its, rv, ht, hz⟩ := I.tuple hq
  refine assign_Tuple_tuple (I.ok.hd hc) ht (by simp [hn, ← hl, rv.length]) hst fun h' hx => ?_
  have I1 : Inv X pins σ H { s with heap := h' } := I.kept (t' := s.toks) fun b o e => hx b o (Nat.ne_of_lt (Heap.lt_size e)) e
  exact h pins _ σ H xs _ Q I1 (by simpa using rv) hw
/-- target = value -/
def tAsg (te : TE) (g : TG) : TS := fun D σ H => te σ H fun x H1 => g x σ H1 D.nx
/-- name = value -/
theorem ps_set {i : Nat} {x : Str} {e : Expr} {te : TE} {pos' : Pos} (hN : X.N.Nodup) (hi : X.N[i]? = some x) (hx : Loc X.env.scope x) (he : PE X e te) (hs : swapsWith e (some (.Name x pos')) pos.line X.env = pure false := by rfl) (hf : X.fn x = true ∨ X.env.scope.names.lookup x = some .local := by first | exact .inl rfl | exact .inr rfl | assumption) :
    PS X (.Assign [.Name x pos'] e pos) (tAsg te (gName i)) := by
  intro pins s σ H D I h
  refine wpAny_Assign_Name (thn (he pins s σ H _ I h) fun v s1 ⟨y, H1, I1, r1, q1⟩ => ?_) hs
  exact store_ok I1 hN hi hx r1 (fun s2 I2 => ⟨_, H1, I2, q1⟩) hf
/-- name op= e -/
def tAug (i : Nat) (te : TE) (ti : TIp) : TS := fun D σ H => ∃ x, σ[i]? = some (some x) ∧ te σ H fun y H1 => ti x y H1 fun z H2 => D.nx (σ.set i (some z)) H2
theorem ps_aug {i : Nat} {x : Str} {e : Expr} {te : TE} {op : Operator} {ti : TIp} {pos' : Pos} (hN : X.N.Nodup) (hi : X.N[i]? = some x) (hx : Loc X.env.scope x) (he : PE X e te) (ho : PIp X op ti) (hf : X.fn x = true ∨ X.env.scope.names.lookup x = some .local := by first | exact .inl rfl | exact .inr rfl | assumption) :
    PS X (.AugAssign (.Name x pos') op e pos) (tAug i te ti) := by
  intro pins s σ H D I h
  obtain ⟨v, e1, h⟩ := h
  obtain ⟨m, hn, hl⟩ := I.loc
  have vis : Vis X.env.scope x := by rcases hx with k | k; exact .inl k; exact .inr (.inl k)
  obtain ⟨u, r, l⟩ := hl i x v hi e1 vis
  refine wpAny_AugAssign_Name ?_
  have go : wpAny (model X.prog X.w) X.A (eval e X.env) (fun w s₂ => wpAny (model X.prog X.w) X.A (inplaceOp op u w) (fun r s₃ => wpAny (model X.prog X.w) X.A (storeName X.env x r) (fun _ => SP X pins D .next) X.xe s₃) X.xe s₂) X.xe s := by
    refine thn (he pins s σ H _ I h) fun w s1 ⟨y, H1, I1, r1, q1⟩ => ?_
    refine thn (ho pins s1 σ H1 v y u w _ I1 r r1 q1) fun z s2 ⟨zv, H2, I2, r2, q2⟩ => ?_
    exact store_ok I2 hN hi hx r2 (fun s3 I3 => ⟨_, H2, I3, q2⟩) hf
  rcases l with ⟨hk, hm⟩ | ⟨hk, c, hc, hcell⟩
  · exact wpAny_loadName_local I.ok.kind hk hn hm go
  · rcases hk with hk | hk
    · exact wpAny_loadName_cell I.ok.kind hk hc hcell go
    · rcases hx with k | k
      · have : X.env.scope.names.lookup x = some .free := hk
        rw [k] at this; cases this
      · have : X.env.scope.names.lookup x = some .free := hk
        rw [k] at this; cases this
/-- ints -/
def ipI (f : Int → Int → Int) : TIp := fun x y H Q => ∃ i j, x = .int i ∧ y = .int j ∧ Q (.int (f i j)) H
theorem ip_add : PIp X .Add (ipI fun i j => i + j) := by
  intro pins s σ H x y v u Q I r1 r2 h
  obtain ⟨i, j, e1, e2, q⟩ := h
  subst e1; subst e2
  obtain ⟨t, rfl⟩ := r1
  obtain ⟨t', rfl⟩ := r2
  exact iadd_int ⟨.int _, H, I.tok _, ⟨_, rfl⟩, q⟩
end

/-! ### while -/
section
variable {X : Cx} {pos : Pos}
/-- the invariant W with its measure -/
def tWhile (c : TT) (tb : TS) : TS := fun D σ H => ∃ W : Nat → St → Hp → Prop, (∃ m, W m σ H) ∧ ∀ m σ H, W m σ H →
  c σ H fun b H1 => if b = true then ∃ N : St → Hp → Prop, (∀ σ' H', N σ' H' → ∃ m', m' < m ∧ W m' σ' H') ∧ tb { D with nx := N, ct := N, bk := D.nx } σ H1 else D.nx σ H1
theorem ps_while {c : Expr} {body : List Stmt} {tc : TT} {tb : TS} (hp : PassesOwn (model X.prog X.w) X.A X.env X.xe) (hc : PT X c tc) (hb : PSs X body tb) : PS X (.While c body [] pos) (tWhile tc tb) := by
  intro pins s σ H D I h
  obtain ⟨W, ⟨m0, w0⟩, turn⟩ := h
  refine wpAny_While (codeAny_whileLoop (fun n s' => ∃ σ' H', Inv X pins σ' H' s' ∧ W n σ' H') ?_ m0 ⟨σ, H, I, w0⟩)
  rintro n s1 ⟨σ1, H1, I1, w1⟩
  refine wpAny_passesOwn hp (thn (hc pins s1 σ1 H1 _ I1 (turn n σ1 H1 w1)) fun b s2 ⟨H2, I2, q2⟩ => ?_)
  cases b with
  | true =>
    obtain ⟨N, hN, q2⟩ := q2
    rw [if_pos rfl]
    refine wpAny_passesOwn hp (thn (hb pins s2 σ1 H2 _ I2 q2) fun f s3 q3 => ?_)
    cases f with
    | next =>
      obtain ⟨σ3, H3, I3, n3⟩ := q3
      obtain ⟨m', hm, w3⟩ := hN σ3 H3 n3
      exact ⟨m', hm, σ3, H3, I3, w3⟩
    | cont =>
      obtain ⟨σ3, H3, I3, n3⟩ := q3
      obtain ⟨m', hm, w3⟩ := hN σ3 H3 n3
      exact ⟨m', hm, σ3, H3, I3, w3⟩
    | brk => exact q3
    | ret v => exact q3
  | false =>
    rw [if_neg Bool.false_ne_true]
    exact wpAny_execs_nil ⟨σ1, H2, I2, q2⟩
end

/-! ### what a loop or a comprehension walks -/
/-- at turn i: it yields x (the heap may grow), or it stops -/
structure It where
  go : Nat → Hp → Prop
  yld : Nat → Hp → V → Hp → Prop
  stop : Nat → Hp → Prop
/-- the iterator's own objects may turn: they are not the frame's, not pinned, younger than the entry (or a comprehension's own) -/
def FpOk (X : Cx) (pins : List (Addr × Obj)) (H : Hp) (b : Addr) : Prop :=
  H b = none ∧ b ≠ X.env.locals ∧ b ∉ X.fs ∧ (b ∈ X.ex ∨ X.s_0.heap.objs.size ≤ b) ∧ (∀ x c, X.env.cells.lookup x = some c → c ≠ b) ∧ ∀ p ∈ X.pn ++ pins, p.1 ≠ b
theorem Inv.fpOk {X : Cx} {pins : List (Addr × Obj)} {σ : St} {H H' : Hp} {s : Shared} {b : Addr} (I : Inv X pins σ H s) (hb : s.heap.objs.size ≤ b) (hn : H' b = none) : FpOk X pins H' b := by
  refine ⟨hn, Nat.ne_of_gt (Nat.lt_of_lt_of_le I.lt hb), I.nofs hb, .inr (Nat.le_trans I.sz hb), fun x c e z => ?_, fun p hp z => ?_⟩
  · obtain ⟨v, q⟩ := I.cell x c e
    exact absurd (Nat.lt_of_lt_of_le q.lt (by rw [z]; exact hb)) (Nat.lt_irrefl _)
  · exact absurd (Nat.lt_of_lt_of_le (Heap.lt_size (I.pin p hp).1) (by rw [z]; exact hb)) (Nat.lt_irrefl _)
structure Turn (P : Program) (w : World) (K : PySem.W.Frag) (tg : Expr) (J : It) (fp : List Addr) (it : Addr) (tn : Nat → Heap → Prop) : Prop where
  mem : it ∈ fp
  obj : ∀ i h, tn i h → ∀ b ∈ fp, ∃ o, h.get? b = some o ∧ ∀ v, o.data ≠ .cell v
  keep : ∀ i h h', tn i h → (∀ b ∈ fp, ∀ o, h.get? b = some o → h'.get? b = some o) → tn i h'
  item : ∀ (X : Cx), X.prog = P → X.w = w → X.K = K → X.calm = true → ∀ (i : Nat) (pins : List (Addr × Obj)) (s : Shared) (σ : St) (H : Hp) (E : Value → Shared → Prop), Inv X pins σ H s → (∀ b ∈ fp, FpOk X pins H b) → tn i s.heap → J.go i H →
    wpAny (model P w) X.A (pyNext (.ref it)) (fun r s1 => ∃ u, r = some u ∧
      wpAny (model P w) X.A (letOwnedTupleGo tg (.ref it) u) (fun _ s2 => ∃ x H', Inv X pins σ H' s2 ∧ RelV x u ∧ J.yld i H x H' ∧ tn (i + 1) s2.heap ∧ ∀ b ∈ fp, H' b = none) E s1) E s
  done : ∀ (X : Cx), X.prog = P → X.w = w → X.K = K → X.calm = true → ∀ (i : Nat) (pins : List (Addr × Obj)) (s : Shared) (σ : St) (H : Hp) (E : Value → Shared → Prop), Inv X pins σ H s → (∀ b ∈ fp, FpOk X pins H b) → tn i s.heap → J.stop i H →
    wpAny (model P w) X.A (pyNext (.ref it)) (fun r s1 => r = none ∧ Inv X pins σ H s1) E s
  self : ∀ (A : Around) (i : Nat) (s : Shared) (Q : Value → Shared → Prop) (E : Value → Shared → Prop), tn i s.heap → Q (.ref it) s → wpAny (model P w) A (pyIter (.ref it)) Q E s
abbrev TI := St → Hp → (It → Hp → Prop) → Prop
/-- an iterator has come -/
def PIE (X : Cx) (pins : List (Addr × Obj)) (σ : St) (tg : Expr) (R : It → Hp → Prop) (itv : Value) (s2 : Shared) : Prop :=
  ∃ (it : Addr) (fp : List Addr) (tn : Nat → Heap → Prop) (J : It) (H' : Hp), itv = .ref it ∧ Inv X pins σ H' s2 ∧ Turn X.prog X.w X.K tg J fp it tn ∧ tn 0 s2.heap ∧ (∀ b ∈ fp, FpOk X pins H' b) ∧ R J H'
def PI (X : Cx) (tg iter : Expr) (wi : TI) : Prop :=
  ∀ (pins : List (Addr × Obj)) (s : Shared) (σ : St) (H : Hp) (R : It → Hp → Prop), Inv X pins σ H s → wi σ H R →
    wpAny (model X.prog X.w) X.A (eval iter X.env) (fun v s1 => wpAny (model X.prog X.w) X.A (pyIter v) (PIE X pins σ tg R) X.xe s1) X.xe s

/-- the step ahead of the store is nothing for an iterator that keeps no tuple -/
theorem go_of {M : Model} {A : Around} {E : Value → Shared → Prop} {s : Shared} {tg : Expr} {it : Addr} {u : Value} {o : Obj} {n : String} {vs : Array Value} {Q : Unit → Shared → Prop} (ho : s.heap.get? it = some o) (hc : o.cls = .type n) (hd : o.data = .fields vs)
    (hn : ["enumerate", "zip", "dict_itemiterator", "dict_reverseitemiterator", "odict_iterator", "itertools.zip_longest", "itertools.pairwise"].contains n = false) (hQ : Q () s) : wpAny M A (letOwnedTupleGo tg (.ref it) u) Q E s := by
  unfold letOwnedTupleGo
  cases tg <;> first
    | exact wpAny_pure hQ
    | (cases u <;> first
        | exact wpAny_pure hQ
        | (refine wpAny_bind (wpAny_load ho ?_)
           rw [hc, hd]
           show wpAny M A (if (["enumerate", "zip", "dict_itemiterator", "dict_reverseitemiterator", "odict_iterator", "itertools.zip_longest", "itertools.pairwise"].contains n && vs[0]? == some (rawInt _)) = true then _ else _) Q E s
           rw [if_neg (by intro h; rw [hn, Bool.false_and] at h; cases h)]
           exact wpAny_pure hQ))

/-- the list at a, as it stands at each turn (a loop may append to it) -/
def Itl (K : PySem.W.Frag) (a : Addr) : It :=
  ⟨fun i H => ∃ xs x, SqL K H a xs ∧ xs[i]? = some x, fun i H x H' => H' = H ∧ ∀ xs, SqL K H a xs → xs[i]? = some x, fun i H => ∃ xs, SqL K H a xs ∧ xs.length ≤ i⟩
/-- lo, lo + 1, .. (n of them) -/
def Itr (lo : Int) (n : Nat) : It := ⟨fun i _ => i < n, fun i H x H' => H' = H ∧ x = .int (lo + i), fun i _ => n ≤ i⟩
theorem turn_list {P : Program} {w : World} {K : PySem.W.Frag} {tg : Expr} (a it : Addr) : Turn P w K tg (Itl K a) [it] it (fun i h => h.IsListIter it a i) where
  mem := by simp
  obj := fun i h st b hb => by
    have e : b = it := by simpa using hb
    subst e
    obtain ⟨o, e, c, d⟩ := st
    exact ⟨o, e, fun v z => by rw [d] at z; cases z⟩
  keep := fun i h h' st k => st.at fun o e => k it (by simp) o e
  item := by
    intro X hP hw hK hc i pins s σ H E I hf st hg
    subst hP hw hK
    obtain ⟨xs, x, hq, hx⟩ := hg
    obtain ⟨its, rv, p, hz⟩ := I.list hq
    obtain ⟨u, hu, ru⟩ := rv.get hx
    obtain ⟨f0, f1, f2, f3, f4, f5⟩ := hf it (by simp)
    refine wpAny_pyNext_list_item st p.isList (x := u) (by simpa using hu) fun h' st' sb => ?_
    have I1 : Inv X pins σ H { s with heap := h' } := I.turned (t' := s.toks) (fun b o hb e => (sb.2 b hb).trans e) f0 f1 f3 f4 f5
    obtain ⟨o, e, c, d⟩ := id st'
    exact ⟨u, rfl, go_of (s := { s with heap := h' }) e c d (by decide) ⟨x, H, I1, ru, ⟨rfl, fun ys hy => by rw [I.list_inj hy hq]; exact hx⟩, st', fun b hb => (hf b hb).1⟩⟩
  done := by
    intro X hP hw hK hc i pins s σ H E I hf st hg
    subst hP hw hK
    obtain ⟨xs, hq, hx⟩ := hg
    obtain ⟨its, rv, p, hz⟩ := I.list hq
    obtain ⟨f0, f1, f2, f3, f4, f5⟩ := hf it (by simp)
    have hl := rv.length
    exact wpAny_pyNext_list_end (I.ok.hd hc) st p.isList (by simp; omega) fun h' eb => ⟨rfl, I.turned (t' := s.toks) (fun b o hb e => eb b o hb e) f0 f1 f3 f4 f5⟩
  self := fun _ _ _ _ _ st h => wpAny_pyIter_listiter st h
theorem turn_range {P : Program} {w : World} {K : PySem.W.Frag} {tg : Expr} (it : Addr) (lo : Int) (n : Nat) : Turn P w K tg (Itr lo n) [it] it (fun i h => IsRangeIter h it (lo + (i : Nat) * 1) ((n : Int) - (i : Nat)) 1) where
  mem := by simp
  obj := fun i h st b hb => by
    have e : b = it := by simpa using hb
    subst e
    exact ⟨_, st, fun v z => by
      have z' : Data.fields _ = Data.cell v := z
      cases z'⟩
  keep := fun i h h' st k => k it (by simp) _ st
  item := by
    intro X hP hw hK hc i pins s σ H E I hf st hg
    subst hP hw hK
    obtain ⟨f0, f1, f2, f3, f4, f5⟩ := hf it (by simp)
    have W := Walks.range (prog := X.prog) (w := X.w) (I.ok.hd hc) it lo 1 n
    refine W.item i s _ _ hg st fun v h' tk hv st' kk => ?_
    obtain ⟨t, rfl⟩ := hv
    have I1 : Inv X pins σ H { s with heap := h', toks := tk } := I.turned (fun b o hb e => kk b o (by simpa using hb) e) f0 f1 f3 f4 f5
    refine ⟨_, rfl, go_of (s := { s with heap := h', toks := tk }) (n := "range_iterator") st' rfl rfl (by decide) ⟨.int (lo + i), H, I1, ⟨t, ?_⟩, ⟨rfl, rfl⟩, st', fun b hb => (hf b hb).1⟩⟩
    rw [Int.mul_one]
  done := by
    intro X hP hw hK hc i pins s σ H E I hf st hg
    subst hP hw hK
    obtain ⟨f0, f1, f2, f3, f4, f5⟩ := hf it (by simp)
    exact wpAny_pyNext_range_end (I.ok.hd hc) st (by have : n ≤ i := hg; omega) fun h' eb => ⟨rfl, I.turned (t' := s.toks) (fun b o hb e => eb b o hb e) f0 f1 f3 f4 f5⟩
  self := fun _ _ _ _ _ st h => wpAny_pyIter_rangeiter st h
end L2

namespace L2
open PySem PySem.Spec PyProof.Rows
section
variable {X : Cx} {tg : Expr}
def iList (K : PySem.W.Frag) (tl : TE) : TI := fun σ H R => tl σ H fun x H1 => ∃ a, x = .ref a ∧ (∃ xs, SqL K H1 a xs) ∧ R (Itl K a) H1
theorem pi_list {l : Expr} {tl : TE} (hl : PE X l tl) : PI X tg l (iList X.K tl) := by
  intro pins s σ H R I h
  refine thn (hl pins s σ H _ I h) fun v s1 ⟨x, H1, I1, r1, q1⟩ => ?_
  obtain ⟨a, e, ⟨xs, hq⟩, q⟩ := q1
  subst e
  cases r1
  obtain ⟨its, rv, p, hz⟩ := I1.list hq
  refine wpAny_pyIter_list p.isList ?_
  refine ⟨s1.heap.objs.size, [s1.heap.objs.size], _, _, H1, rfl, I1.kept (t' := s1.toks) fun b o e => Heap.get?_push_of_some _ e, turn_list a _, ⟨_, Heap.get?_push_size _ rfl, rfl, rfl⟩, fun b hb => ?_, q⟩
  have e : b = s1.heap.objs.size := by simpa using hb
  subst e
  exact I1.fpOk (Nat.le_refl _) (I1.hok.fresh (Nat.le_refl _))
/-- a range object just made, walked -/
theorem range_it {pins : List (Addr × Obj)} {σ : St} {H : Hp} {s : Shared} {R : It → Hp → Prop} {E : Value → Shared → Prop} {lo hi : Int} {t u v : Tok} {tk : Nat} (I : Inv X pins σ H s) (h1 : -(2 ^ 62) ≤ lo) (h2 : lo < 2 ^ 62) (h3 : -(2 ^ 62) ≤ hi) (h4 : hi < 2 ^ 62)
    (q : R (Itr lo (hi - lo).toNat) H) : wpAny (model X.prog X.w) X.A (pyIter (.ref s.heap.objs.size)) (PIE X pins σ tg R) E { s with heap := s.heap.push { cls := .type "range", data := .fields #[.int lo t, .int hi u, .int 1 v] }, toks := tk } := by
  refine wpAny_pyIter_range (IsRange.new ..) (small_one h1 h2 h3 h4) ?_
  have I1 : Inv X pins σ H { s with heap := s.heap.push { cls := .type "range", data := .fields #[.int lo t, .int hi u, .int 1 v] }, toks := tk } := I.kept fun b o e => Heap.get?_push_of_some _ e
  refine ⟨(s.heap.push { cls := .type "range", data := .fields #[.int lo t, .int hi u, .int 1 v] }).objs.size, [(s.heap.push { cls := .type "range", data := .fields #[.int lo t, .int hi u, .int 1 v] }).objs.size], _, _, H, rfl,
    I1.kept (t' := tk) fun b o e => Heap.get?_push_of_some _ e, turn_range _ lo (hi - lo).toNat, ?_, fun b hb => ?_, q⟩
  · have e1 : lo + ((0 : Nat) : Int) * 1 = lo := by simp
    have e2 : (((hi - lo).toNat : Nat) : Int) - ((0 : Nat) : Int) = Builtin.Range.rangeSize lo hi 1 := by rw [rangeSize_one]; split <;> omega
    show IsRangeIter _ _ (lo + ((0 : Nat) : Int) * 1) ((((hi - lo).toNat : Nat) : Int) - ((0 : Nat) : Int)) 1
    rw [e1, e2]
    exact Heap.get?_push_size _ rfl
  · have e : b = (s.heap.push { cls := .type "range", data := .fields #[.int lo t, .int hi u, .int 1 v] }).objs.size := by simpa using hb
    subst e
    exact I1.fpOk (Nat.le_refl _) (I1.hok.fresh (Nat.le_refl _))
def iRng1 (ta : TA) : TI := fun σ H R => ta σ H fun vs H1 => ∃ j : Int, vs = [.int j] ∧ -(2 ^ 62) ≤ j ∧ j < 2 ^ 62 ∧ R (Itr 0 j.toNat) H1
theorem pi_range1 {a : Expr} {ta : TA} {p pos : Pos} (hg : Gl X "range") (hm : X.mg "range" = none) (ha : PA X [a] ta) (hs : starEach [a] X.env = [(false, eval a X.env)] := by rfl) : PI X tg (.Call (.Name "range" p) [a] [] pos) (iRng1 ta) := by
  intro pins s σ H R I h
  refine Call_ (ld_blt I hg hm boot_range (PyProof.Rows.callWith_type1 (thn (ha pos pins s σ H _ I h) fun us s1 ⟨vs, H1, I1, r1, q1⟩ => ?_) hs rfl))
  obtain ⟨j, e, q1, q2, q⟩ := q1
  subst e
  cases r1 with
  | cons r rr =>
    cases rr
    obtain ⟨t, rfl⟩ := r
    exact call_range_1 (range_it I1 (by omega) (by omega) q1 q2 (by simpa using q))
/-! ### for -/
/-- W: the invariant by the turn and a measure; N: what the body is to reach -/
def tFor (wi : TI) (g : TG) (tb : TS) : TS := fun D σ H => wi σ H fun J H1 => ∃ W : Nat → Nat → St → Hp → Prop, (∃ m, W 0 m σ H1) ∧ ∀ i m σ H, W i m σ H →
  (J.stop i H ∧ D.nx σ H) ∨ (J.go i H ∧ ∃ N : St → Hp → Prop, (∀ σ' H', N σ' H' → ∃ m', m' < m ∧ W (i + 1) m' σ' H') ∧ ∀ x H', J.yld i H x H' → g x σ H' fun σ2 H2 => tb { D with nx := N, ct := N, bk := D.nx } σ2 H2)
/-- the records at fp as they stand -/
def pinsAt (fp : List Addr) (h : Heap) : List (Addr × Obj) := fp.filterMap fun b => (h.get? b).map fun o => (b, o)
theorem mem_pinsAt {fp : List Addr} {h : Heap} {b : Addr} {o : Obj} (hb : b ∈ fp) (e : h.get? b = some o) : (b, o) ∈ pinsAt fp h := List.mem_filterMap.mpr ⟨b, hb, by rw [e]; rfl⟩
theorem of_pinsAt {fp : List Addr} {h : Heap} {p : Addr × Obj} (hp : p ∈ pinsAt fp h) : p.1 ∈ fp ∧ h.get? p.1 = some p.2 := by
  obtain ⟨b, hb, e⟩ := List.mem_filterMap.mp hp
  cases q : h.get? b with
  | none => rw [q] at e; cases e
  | some o =>
    rw [q] at e
    have e' : (b, o) = p := Option.some.inj e
    subst e'
    exact ⟨hb, q⟩
theorem Inv.pinned {pins : List (Addr × Obj)} {σ : St} {H : Hp} {s : Shared} {fp : List Addr} (I : Inv X pins σ H s) (hf : ∀ b ∈ fp, FpOk X pins H b) (ho : ∀ b ∈ fp, ∃ o, s.heap.get? b = some o ∧ ∀ v, o.data ≠ .cell v) : Inv X (pins ++ pinsAt fp s.heap) σ H s :=
  I.pins_of fun p hp => (List.mem_append.mp hp).elim (fun z => I.pin p (List.mem_append_right _ z)) fun z => by
    obtain ⟨hb, e⟩ := of_pinsAt z
    obtain ⟨f0, f1, f2, _⟩ := hf p.1 hb
    obtain ⟨o, e', d⟩ := ho p.1 hb
    rw [e] at e'; cases e'
    exact ⟨e, f0, f1, f2, d⟩
theorem Inv.unpinned {pins pl : List (Addr × Obj)} {σ : St} {H : Hp} {s : Shared} (I : Inv X (pins ++ pl) σ H s) : Inv X pins σ H s := I.pins_of fun p hp => I.pin p (List.mem_append_right _ (List.mem_append_left _ hp))
theorem ps_for {iter : Expr} {body : List Stmt} {wi : TI} {g : TG} {tb : TS} {pos : Pos} (hp : PassesOwn (model X.prog X.w) X.A X.env X.xe) (hc : X.calm = true) (hi : PI X tg iter wi) (hg : PG X tg g) (hb : PSs X body tb)
    (hs : ∀ x, foldedSetIterable iter X.env x = pure x := by intro _; rfl) : PS X (.For tg iter body [] pos) (tFor wi g tb) := by
  intro pins s σ H D I h
  refine wpAny_For (thn (hi pins s σ H _ I h) fun v s1 h1 => thn h1 fun itv s2 h2 => ?_) hs
  obtain ⟨it, fp, tn, J, H2, e, I2, T, st2, f2, W, ⟨m0, w0⟩, turn⟩ := h2
  subst e
  -- what stays true of the iterator's objects through the loop
  have stat : ∀ {H' : Hp}, (∀ b ∈ fp, H' b = none) → ∀ b ∈ fp, FpOk X pins H' b := fun hn b hb => ⟨hn b hb, (f2 b hb).2⟩
  refine codeAny_forLoop_any (fun n s' => ∃ i σ' H', Inv X pins σ' H' s' ∧ tn i s'.heap ∧ (∀ b ∈ fp, H' b = none) ∧ W i n σ' H') ?_ m0 ⟨0, σ, H2, I2, st2, fun b hb => (f2 b hb).1, w0⟩
  rintro n s3 ⟨i, σ3, H3, I3, st3, fr3, w3⟩
  rcases turn i n σ3 H3 w3 with ⟨stop, qn⟩ | ⟨go, N, hN, step⟩
  · refine wpAny_passesOwn hp (thn (T.done X rfl rfl rfl hc i pins s3 σ3 H3 X.xe I3 (stat fr3) st3 stop) fun r s4 ⟨hr, I4⟩ => ?_)
    subst hr
    exact wpAny_execs_nil ⟨σ3, H3, I4, qn⟩
  · refine wpAny_passesOwn hp (thn (T.item X rfl rfl rfl hc i pins s3 σ3 H3 X.xe I3 (stat fr3) st3 go) fun r s4 ⟨u, hr, h4⟩ => ?_)
    subst hr
    refine wpAny_passesOwn hp (thn h4 fun _ s5 ⟨x, H5, I5, r5, y5, st5, fr5⟩ => ?_)
    have I5' := I5.pinned (stat fr5) (T.obj _ _ st5)
    refine wpAny_passesOwn hp (thn (hg _ s5 σ3 H5 x u _ I5' r5 (step x H5 y5)) fun _ s6 ⟨σ6, H6, I6, q6⟩ => ?_)
    refine wpAny_passesOwn hp (thn (hb _ s6 σ6 H6 _ I6 q6) fun f s7 q7 => ?_)
    have again : ∀ {σ7 : St} {H7 : Hp}, Inv X (pins ++ pinsAt fp s5.heap) σ7 H7 s7 → N σ7 H7 → ∃ m, m < n ∧ ∃ i σ' H', Inv X pins σ' H' s7 ∧ tn i s7.heap ∧ (∀ b ∈ fp, H' b = none) ∧ W i m σ' H' := fun {σ7 H7} I7 n7 => by
      obtain ⟨m', hm, w7⟩ := hN σ7 H7 n7
      refine ⟨m', hm, i + 1, σ7, H7, I7.unpinned, T.keep _ _ _ st5 fun b hb o e => (I7.pin (b, o) (List.mem_append_right _ (List.mem_append_right _ (mem_pinsAt hb e)))).1, fun b hb => ?_, w7⟩
      obtain ⟨o, e, d⟩ := T.obj _ _ st5 b hb
      exact (I7.pin (b, o) (List.mem_append_right _ (List.mem_append_right _ (mem_pinsAt hb e)))).2.1
    cases f with
    | next => obtain ⟨σ7, H7, I7, n7⟩ := q7; exact again I7 n7
    | cont => obtain ⟨σ7, H7, I7, n7⟩ := q7; exact again I7 n7
    | brk => obtain ⟨σ7, H7, I7, q7⟩ := q7; exact ⟨σ7, H7, I7.unpinned, q7⟩
    | ret v => obtain ⟨x7, σ7, H7, I7, r7, q7⟩ := q7; exact ⟨x7, σ7, H7, I7.unpinned, r7, q7⟩
end

/-! ### the forms one uses -/
/-- over a list that the body leaves as it is -/
theorem for_list {K : PySem.W.Frag} {a : Addr} {xs : List V} {g : TG} {tb : TS} {D : Ends} {σ : St} {H : Hp} (Pv : Nat → St → Hp → Prop) (h0 : Pv 0 σ H) (hl : ∀ i σ H, i ≤ xs.length → Pv i σ H → SqL K H a xs)
    (hs : ∀ i x σ H, xs[i]? = some x → Pv i σ H → g x σ H fun σ2 H2 => tb { D with nx := Pv (i + 1), ct := Pv (i + 1), bk := D.nx } σ2 H2) (hd : ∀ σ H, Pv xs.length σ H → D.nx σ H) :
    ∃ W : Nat → Nat → St → Hp → Prop, (∃ m, W 0 m σ H) ∧ ∀ i m σ H, W i m σ H →
      ((Itl K a).stop i H ∧ D.nx σ H) ∨ ((Itl K a).go i H ∧ ∃ N : St → Hp → Prop, (∀ σ' H', N σ' H' → ∃ m', m' < m ∧ W (i + 1) m' σ' H') ∧ ∀ x H', (Itl K a).yld i H x H' → g x σ H' fun σ2 H2 => tb { D with nx := N, ct := N, bk := D.nx } σ2 H2) := by
  refine ⟨fun i m σ H => m = xs.length - i ∧ i ≤ xs.length ∧ Pv i σ H, ⟨xs.length, by simp, Nat.zero_le _, h0⟩, ?_⟩
  rintro i m σ H ⟨rfl, hi, p⟩
  have q := hl i σ H hi p
  by_cases hlt : i < xs.length
  · refine .inr ⟨⟨xs, xs[i], q, by simp [hlt]⟩, Pv (i + 1), fun σ' H' p' => ⟨xs.length - (i + 1), by omega, rfl, hlt, p'⟩, fun x H' y => ?_⟩
    obtain ⟨e, y⟩ := y
    subst e
    exact hs i x σ _ (y xs q) p
  · have e : i = xs.length := by omega
    subst e
    exact .inl ⟨⟨xs, q, Nat.le_refl _⟩, hd σ H p⟩
theorem for_range {lo : Int} {n : Nat} {g : TG} {tb : TS} {D : Ends} {σ : St} {H : Hp} (Pv : Nat → St → Hp → Prop) (h0 : Pv 0 σ H)
    (hs : ∀ i σ H, i < n → Pv i σ H → g (.int (lo + i)) σ H fun σ2 H2 => tb { D with nx := Pv (i + 1), ct := Pv (i + 1), bk := D.nx } σ2 H2) (hd : ∀ σ H, Pv n σ H → D.nx σ H) :
    ∃ W : Nat → Nat → St → Hp → Prop, (∃ m, W 0 m σ H) ∧ ∀ i m σ H, W i m σ H →
      ((Itr lo n).stop i H ∧ D.nx σ H) ∨ ((Itr lo n).go i H ∧ ∃ N : St → Hp → Prop, (∀ σ' H', N σ' H' → ∃ m', m' < m ∧ W (i + 1) m' σ' H') ∧ ∀ x H', (Itr lo n).yld i H x H' → g x σ H' fun σ2 H2 => tb { D with nx := N, ct := N, bk := D.nx } σ2 H2) := by
  refine ⟨fun i m σ H => m = n - i ∧ i ≤ n ∧ Pv i σ H, ⟨n, by simp, Nat.zero_le _, h0⟩, ?_⟩
  rintro i m σ H ⟨rfl, hi, p⟩
  by_cases hlt : i < n
  · refine .inr ⟨hlt, Pv (i + 1), fun σ' H' p' => ⟨n - (i + 1), by omega, rfl, hlt, p'⟩, fun x H' y => ?_⟩
    obtain ⟨e, y⟩ := y
    subst e y
    exact hs i σ _ hlt p
  · have e : i = n := by omega
    subst e
    exact .inl ⟨Nat.le_refl _, hd σ H p⟩
end L2

namespace L2
open PySem PySem.Spec PyProof.Rows

abbrev R2 := V → V → Hp → VK → Prop
/-- a two-place operation on values: f is binaryOp op, inplaceOp op or compareOp op -/
def OpR (X : Cx) (f : Value → Value → Sem Value) (r : R2) : Prop :=
  ∀ (pins : List (Addr × Obj)) (s : Shared) (σ : St) (H : Hp) (x y : V) (v u : Value) (Q : VK), Inv X pins σ H s → RelV x v → RelV y u → r x y H Q →
    wpAny (model X.prog X.w) X.A (f v u) (EP X pins σ Q) X.xe s
/-- a one-place operation -/
def UnR (X : Cx) (f : Value → Sem Value) (r : V → Hp → VK → Prop) : Prop :=
  ∀ (pins : List (Addr × Obj)) (s : Shared) (σ : St) (H : Hp) (x : V) (v : Value) (Q : VK), Inv X pins σ H s → RelV x v → r x H Q →
    wpAny (model X.prog X.w) X.A (f v) (EP X pins σ Q) X.xe s
/-- a call of a value that is known (a builtin, a type) with values -/
def CallR (X : Cx) (f : Value) (r : List V → Hp → VK → Prop) : Prop :=
  ∀ (pins : List (Addr × Obj)) (s : Shared) (σ : St) (H : Hp) (xs : List V) (us : List Value) (Q : VK), Inv X pins σ H s → Vals xs us → r xs H Q →
    wpAny (model X.prog X.w) X.A (call f us) (EP X pins σ Q) X.xe s
def tOp (r : R2) (ta tb : TE) : TE := fun σ H Q => ta σ H fun x H1 => tb σ H1 fun y H2 => r x y H2 Q
def tUn (r : V → Hp → VK → Prop) (ta : TE) : TE := fun σ H Q => ta σ H fun x H1 => r x H1 Q
/-- ints in, under C, and a value out -/
def rI (C : Int → Int → Prop) (g : Int → Int → V) : R2 := fun x y H Q => ∃ i j, x = .int i ∧ y = .int j ∧ C i j ∧ Q (g i j) H
def rI0 (g : Int → Int → V) : R2 := fun x y H Q => ∃ i j, x = .int i ∧ y = .int j ∧ Q (g i j) H
def rU (g : Int → V) : V → Hp → VK → Prop := fun x H Q => ∃ i, x = .int i ∧ Q (g i) H

section
variable {X : Cx} {a b c : Expr} {ta tb tc : TE} {pos : Pos}

theorem binT (ha : PE X a ta) (hb : PE X b tb) {pins : List (Addr × Obj)} {s : Shared} {σ : St} {H : Hp} {R : V → V → Hp → Prop} (I : Inv X pins σ H s)
    (h : ta σ H fun x H1 => tb σ H1 fun y H2 => R x y H2) {Q : Value → Shared → Prop} {f : Value → Value → Sem Value}
    (hf : ∀ v u s2 x y H2, Inv X pins σ H2 s2 → RelV x v → RelV y u → R x y H2 → wpAny (model X.prog X.w) X.A (f v u) Q X.xe s2) :
    wpAny (model X.prog X.w) X.A (eval a X.env) (fun v s₁ => wpAny (model X.prog X.w) X.A (eval b X.env) (fun u s₂ => wpAny (model X.prog X.w) X.A (f v u) Q X.xe s₂) X.xe s₁) X.xe s := by
  refine thn (ha pins s σ H _ I h) fun v s1 ⟨x, H1, I1, r1, q1⟩ => ?_
  refine thn (hb pins s1 σ H1 _ I1 q1) fun u s2 ⟨y, H2, I2, r2, q2⟩ => ?_
  exact hf v u s2 x y H2 I2 r1 r2 q2

theorem pe_op {op : Operator} {r : R2} (ho : OpR X (binaryOp op) r) (ha : PE X a ta) (hb : PE X b tb) : PE X (.BinOp a op b pos) (tOp r ta tb) := by
  intro pins s σ H Q I h
  exact wpAny_BinOp (binT ha hb I h fun v u s2 x y H2 I2 rx ry q => ho pins s2 σ H2 x y v u Q I2 rx ry q)
theorem pe_un {op : UnaryOp} {r : V → Hp → VK → Prop} (ho : UnR X (unaryOp op) r) (ha : PE X a ta) : PE X (.UnaryOp op a pos) (tUn r ta) := by
  intro pins s σ H Q I h
  exact UnaryOp_ (thn (ha pins s σ H _ I h) fun v s1 ⟨x, H1, I1, r1, q1⟩ => ho pins s1 σ H1 x v Q I1 r1 q1)
/-! ### ints -/
theorem opI {f : Value → Value → Sem Value} {C : Int → Int → Prop} {g : Int → Int → Int}
    (rule : ∀ (i j : Int) (t u : Tok) (s : Shared) (Q : Value → Shared → Prop) (E : Value → Shared → Prop), C i j → Q (.int (g i j) s.toks) { s with toks := s.toks + 1 } → wpAny (model X.prog X.w) X.A (f (.int i t) (.int j u)) Q E s) :
    OpR X f (rI C fun i j => .int (g i j)) := by
  intro pins s σ H x y v u Q I rx ry h
  obtain ⟨i, j, rfl, rfl, hc, q⟩ := h
  obtain ⟨t, rfl⟩ := rx
  obtain ⟨t', rfl⟩ := ry
  exact rule i j t t' s _ _ hc ⟨.int (g i j), H, I.tok _, ⟨_, rfl⟩, q⟩
theorem opI0 {f : Value → Value → Sem Value} {g : Int → Int → Int}
    (rule : ∀ (i j : Int) (t u : Tok) (s : Shared) (Q : Value → Shared → Prop) (E : Value → Shared → Prop), Q (.int (g i j) s.toks) { s with toks := s.toks + 1 } → wpAny (model X.prog X.w) X.A (f (.int i t) (.int j u)) Q E s) :
    OpR X f (rI0 fun i j => .int (g i j)) := by
  intro pins s σ H x y v u Q I rx ry h
  obtain ⟨i, j, rfl, rfl, q⟩ := h
  obtain ⟨t, rfl⟩ := rx
  obtain ⟨t', rfl⟩ := ry
  exact rule i j t t' s _ _ ⟨.int (g i j), H, I.tok _, ⟨_, rfl⟩, q⟩
theorem opB0 {f : Value → Value → Sem Value} {g : Int → Int → Bool}
    (rule : ∀ (i j : Int) (t u : Tok) (s : Shared) (Q : Value → Shared → Prop) (E : Value → Shared → Prop), Q (.bool (g i j)) s → wpAny (model X.prog X.w) X.A (f (.int i t) (.int j u)) Q E s) :
    OpR X f (rI0 fun i j => .bl (g i j)) := by
  intro pins s σ H x y v u Q I rx ry h
  obtain ⟨i, j, rfl, rfl, q⟩ := h
  obtain ⟨t, rfl⟩ := rx
  obtain ⟨t', rfl⟩ := ry
  exact rule i j t t' s _ _ ⟨.bl (g i j), H, I, rfl, q⟩

def CPow (i j : Int) : Prop := 0 ≤ j ∧ j ≤ 1000000 ∧ i.natAbs < 2 ^ 64
theorem op_add : OpR X (binaryOp .Add) (rI0 fun i j => .int (i + j)) := opI0 fun _ _ _ _ _ _ _ q => add_int q
theorem op_sub : OpR X (binaryOp .Sub) (rI0 fun i j => .int (i - j)) := opI0 fun _ _ _ _ _ _ _ q => sub_int q
theorem op_shl : OpR X (binaryOp .LShift) (rI CPow fun i j => .int (i * 2 ^ j.toNat)) := opI fun _ _ _ _ _ _ _ hc q => lshift_int_small hc.1 hc.2.1 hc.2.2 q
theorem unI {f : Value → Sem Value} {g : Int → Int}
    (rule : ∀ (i : Int) (t : Tok) (s : Shared) (Q : Value → Shared → Prop) (E : Value → Shared → Prop), Q (.int (g i) s.toks) { s with toks := s.toks + 1 } → wpAny (model X.prog X.w) X.A (f (.int i t)) Q E s) :
    UnR X f (rU fun i => .int (g i)) := by
  intro pins s σ H x v Q I rx h
  obtain ⟨i, rfl, q⟩ := h
  obtain ⟨t, rfl⟩ := rx
  exact rule i t s _ _ ⟨.int (g i), H, I.tok _, ⟨_, rfl⟩, q⟩
theorem un_neg : UnR X (unaryOp .USub) (rU fun i => .int (-i)) := unI fun _ _ _ _ _ q => neg_int q
/-! ### bools among ints: n += (a < b) -/
end

/-! ### comparisons -/
/-- the scalars that == tells apart as data does -/
def scal : V → V → Bool
  | .non, .non => true | .non, .int _ => true | .int _, .non => true | .non, .bl _ => true | .bl _, .non => true | .non, .str _ => true | .str _, .non => true
  | .int _, .int _ => true | .bl _, .bl _ => true | .str _, .str _ => true | .byt _, .byt _ => true
  | .int _, .str _ => true | .str _, .int _ => true | .bl _, .str _ => true | .str _, .bl _ => true
  | _, _ => false
def rEq : R2 := fun x y H Q => scal x y = true ∧ Q (.bl (decide (x = y))) H
def rNe : R2 := fun x y H Q => scal x y = true ∧ Q (.bl (!decide (x = y))) H

theorem dec_int {i j : Int} : decide (V.int i = V.int j) = (i == j) := by
  rw [Bool.eq_iff_iff]
  simp
theorem dec_bl {i j : Bool} : decide (V.bl i = V.bl j) = (i == j) := by
  rw [Bool.eq_iff_iff]
  simp
theorem dec_str {i j : Str} : decide (V.str i = V.str j) = (i == j) := by
  rw [Bool.eq_iff_iff]
  simp
theorem dec_byt {i j : Array UInt8} : decide (V.byt i = V.byt j) = (i.toList == j.toList) := by
  rw [Bool.eq_iff_iff]
  cases i
  cases j
  simp

section
variable {X : Cx} {a b c : Expr} {ta tb tc : TE} {pos : Pos}
theorem fin_bl {pins : List (Addr × Obj)} {σ : St} {H : Hp} {s : Shared} {Q : VK} {k k' : Bool} (I : Inv X pins σ H s) (q : Q (.bl k) H) (e : k = k') : EP X pins σ Q (.bool k') s := by
  subst e
  exact ⟨.bl k, H, I, rfl, q⟩
theorem op_eq : OpR X (compareOp .Eq) rEq := by
  intro pins s σ H x y v u Q I rx ry h
  obtain ⟨hs, q⟩ := h
  cases x with
  | non =>
    cases rx
    cases y with
    | non => cases ry; exact PySem.EqNone.eq_none_none (fin_bl I q (by simp))
    | bl j => cases ry; exact PySem.EqNone.eq_none_bool (fin_bl I q (by simp))
    | int j => obtain ⟨t', rfl⟩ := ry; exact PySem.EqNone.eq_none_int (fin_bl I q (by simp))
    | str j => obtain ⟨t', rfl⟩ := ry; exact PySem.EqNone.eq_none_str (fin_bl I q (by simp))
    | _ => exact absurd (show false = true from hs) Bool.false_ne_true
  | bl i =>
    cases rx
    cases y with
    | non => cases ry; exact PySem.EqNone.eq_bool_none (fin_bl I q (by simp))
    | bl j => cases ry; exact eq_bool (fin_bl I q dec_bl)
    | str j => obtain ⟨t', rfl⟩ := ry; exact PySem.EqMixed.eq_bool_str (fin_bl I q (by simp))
    | _ => exact absurd (show false = true from hs) Bool.false_ne_true
  | int i =>
    obtain ⟨t, rfl⟩ := rx
    cases y with
    | non => cases ry; exact PySem.EqNone.eq_int_none (fin_bl I q (by simp))
    | int j => obtain ⟨t', rfl⟩ := ry; exact eq_int (fin_bl I q dec_int)
    | str j => obtain ⟨t', rfl⟩ := ry; exact PySem.EqMixed.eq_int_str (fin_bl I q (by simp))
    | _ => exact absurd (show false = true from hs) Bool.false_ne_true
  | str i =>
    obtain ⟨t, rfl⟩ := rx
    cases y with
    | non => cases ry; exact PySem.EqNone.eq_str_none (fin_bl I q (by simp))
    | bl j => cases ry; exact PySem.EqMixed.eq_str_bool (fin_bl I q (by simp))
    | int j => obtain ⟨t', rfl⟩ := ry; exact PySem.EqMixed.eq_str_int (fin_bl I q (by simp))
    | str j => obtain ⟨t', rfl⟩ := ry; exact eq_str (fin_bl I q dec_str)
    | _ => exact absurd (show false = true from hs) Bool.false_ne_true
  | byt i =>
    obtain ⟨t, rfl⟩ := rx
    cases y with
    | byt j => obtain ⟨t', rfl⟩ := ry; exact PySem.W.eq_bytes (fin_bl I q dec_byt)
    | _ => exact absurd (show false = true from hs) Bool.false_ne_true
  | _ => cases y <;> exact absurd (show false = true from hs) Bool.false_ne_true
theorem op_ne : OpR X (compareOp .NotEq) rNe := by
  intro pins s σ H x y v u Q I rx ry h
  obtain ⟨hs, q⟩ := h
  cases x with
  | non =>
    cases rx
    cases y with
    | non => cases ry; exact PySem.EqNone.ne_none_none (fin_bl I q (by simp))
    | bl j => cases ry; exact PySem.EqNone.ne_none_bool (fin_bl I q (by simp))
    | int j => obtain ⟨t', rfl⟩ := ry; exact PySem.EqNone.ne_none_int (fin_bl I q (by simp))
    | str j => obtain ⟨t', rfl⟩ := ry; exact PySem.EqNone.ne_none_str (fin_bl I q (by simp))
    | _ => exact absurd (show false = true from hs) Bool.false_ne_true
  | bl i =>
    cases rx
    cases y with
    | non => cases ry; exact PySem.EqNone.ne_bool_none (fin_bl I q (by simp))
    | bl j => cases ry; exact ne_bool (fin_bl I q (congrArg not dec_bl))
    | str j => obtain ⟨t', rfl⟩ := ry; exact PySem.EqMixed.ne_bool_str (fin_bl I q (by simp))
    | _ => exact absurd (show false = true from hs) Bool.false_ne_true
  | int i =>
    obtain ⟨t, rfl⟩ := rx
    cases y with
    | non => cases ry; exact PySem.EqNone.ne_int_none (fin_bl I q (by simp))
    | int j => obtain ⟨t', rfl⟩ := ry; exact ne_int (fin_bl I q (congrArg not dec_int))
    | str j => obtain ⟨t', rfl⟩ := ry; exact PySem.EqMixed.ne_int_str (fin_bl I q (by simp))
    | _ => exact absurd (show false = true from hs) Bool.false_ne_true
  | str i =>
    obtain ⟨t, rfl⟩ := rx
    cases y with
    | non => cases ry; exact PySem.EqNone.ne_str_none (fin_bl I q (by simp))
    | bl j => cases ry; exact PySem.EqMixed.ne_str_bool (fin_bl I q (by simp))
    | int j => obtain ⟨t', rfl⟩ := ry; exact PySem.EqMixed.ne_str_int (fin_bl I q (by simp))
    | str j => obtain ⟨t', rfl⟩ := ry; exact ne_str (fin_bl I q (congrArg not dec_str))
    | _ => exact absurd (show false = true from hs) Bool.false_ne_true
  | byt i =>
    obtain ⟨t, rfl⟩ := rx
    cases y with
    | byt j => obtain ⟨t', rfl⟩ := ry; exact PySem.W.ne_bytes (fin_bl I q (congrArg not dec_byt))
    | _ => exact absurd (show false = true from hs) Bool.false_ne_true
  | _ => cases y <;> exact absurd (show false = true from hs) Bool.false_ne_true

theorem op_lt : OpR X (compareOp .Lt) (rI0 fun i j => .bl (decide (i < j))) := opB0 fun _ _ _ _ _ _ _ q => lt_int q
theorem op_le : OpR X (compareOp .LtE) (rI0 fun i j => .bl (decide (i ≤ j))) := opB0 fun _ _ _ _ _ _ _ q => le_int q
theorem op_gt : OpR X (compareOp .Gt) (rI0 fun i j => .bl (decide (j < i))) := opB0 fun _ _ _ _ _ _ _ q => gt_int q
theorem op_ge : OpR X (compareOp .GtE) (rI0 fun i j => .bl (decide (j ≤ i))) := opB0 fun _ _ _ _ _ _ _ q => ge_int q
theorem op_notN : OpR X (compareOp .IsNot) (fun x y H Q => y = .non ∧ Q (.bl (!decide (x = .non))) H) := by
  intro pins s σ H x y v u Q I rx ry h
  obtain ⟨rfl, q⟩ := h
  cases ry
  refine isnot_none_gen (fin_bl I q ?_)
  cases x <;> first
    | (cases rx; rfl)
    | (obtain ⟨t, rfl⟩ := rx; rfl)

theorem nomark (b : Expr) {op : CmpOp} (h : op ≠ .In := by decide) (h2 : op ≠ .NotIn := by decide) : behindInMarks op b = false := by
  have e1 : (op == CmpOp.In) = false := by cases op <;> first | rfl | exact absurd rfl h
  have e2 : (op == CmpOp.NotIn) = false := by cases op <;> first | rfl | exact absurd rfl h2
  cases b <;> simp [behindInMarks, e1, e2]
/-- a comparison as a value; hm: nomark b, or (for in, not in) by with_unfolding_all rfl -/
theorem pe_cmpR {op : CmpOp} {r : R2} (ho : OpR X (compareOp op) r) (ha : PE X a ta) (hb : PE X b tb) (hm : behindInMarks op b = false) : PE X (.Compare a [op] [b] pos) (tOp r ta tb) := by
  intro pins s σ H Q I h
  exact wpAny_Compare1 (binT ha hb I h fun v u s2 x y H2 I2 rx ry q => ho pins s2 σ H2 x y v u Q I2 rx ry q) hm
/-- a reading of a value as a test -/
def tTest (t : TE) : TT := fun σ H Q => t σ H fun x H' => ∃ k, x = .bl k ∧ Q k H'
theorem pt_cmpR {op : CmpOp} {r : R2} (ho : OpR X (compareOp op) r) (ha : PE X a ta) (hb : PE X b tb) (hm : behindInMarks op b = false) : PT X (.Compare a [op] [b] pos) (tTest (tOp r ta tb)) := by
  intro pins s σ H Q I h
  refine wpAny_isTrue_Compare1 (thn (ha pins s σ H _ I h) fun v s1 ⟨x, H1, I1, r1, q1⟩ => thn (hb pins s1 σ H1 _ I1 q1) fun u s2 ⟨y, H2, I2, r2, q2⟩ =>
    thn (ho pins s2 σ H2 x y v u _ I2 r1 r2 q2) fun c s3 ⟨z, H3, I3, r3, k, e, q3⟩ => ?_) hm
  subst e
  cases r3
  exact wpAny_truthy_bool ⟨H3, I3, q3⟩
/-! ### truth -/
theorem line63 : (sizeLine : Nat) < 2 ^ 63 := by rw [sizeLine_eq]; decide
/-! ### strs and bytes -/
/-! ### scalar builtins, by CallR -/
theorem vals1 {x : V} {us : List Value} (r : Vals [x] us) : ∃ u, us = [u] ∧ RelV x u := by
  cases r with
  | cons r1 r2 => cases r2; exact ⟨_, rfl, r1⟩
theorem call_abs : CallR X (.builtin "abs") (fun xs H Q => ∃ i, xs = [.int i] ∧ Q (.int (if i < 0 then -i else i)) H) := by
  intro pins s σ H xs us Q I r h
  obtain ⟨i, rfl, q⟩ := h
  obtain ⟨u, rfl, t, rfl⟩ := vals1 r
  exact call_abs_int fun u tk => ⟨.int (if i < 0 then -i else i), H, I.tok _, ⟨_, rfl⟩, q⟩
end
end L2

namespace L2
open PySem PySem.Spec PyProof.Rows

/-! ### an instance, its attributes a map -/
structure ObjM (h : Heap) (x dx C : Addr) (mA : Str → Option Value) : Prop where
  obj : h.get? x = some (PySem.W.instObj C dx)
  ns : h.Ns1 dx mA
  ne : dx ≠ x

theorem lookIn_ns {h : Heap} {dx : Addr} {mA : Str → Option Value} (n : h.Ns1 dx mA) : ∃ od, h.get? dx = some od ∧ ∀ name, PySem.W.lookIn name od = some (mA name) := by
  obtain ⟨o, es, ep, ho, hd, hk, _, hm⟩ := n
  refine ⟨o, ho, fun name => ?_⟩
  have e := hm name
  unfold nsFind findBy at e
  rw [← Array.find?_toList] at e
  unfold PySem.W.lookIn
  rw [hd]
  dsimp only
  split
  · rename_i y q
    rw [q] at e
    exact congrArg some e
  · rename_i q
    rw [q] at e
    have a : es.toList.any (·.refKey) = false := by
      rw [List.any_eq_false]
      intro y hy
      obtain ⟨z, t, hkey⟩ := hk y (Array.mem_toList_iff.mp hy)
      simp [DictEntry.refKey, hkey]
    have a' : ¬ es.toList.any (·.refKey) = true := by rw [a]; exact Bool.false_ne_true
    rw [if_neg a']
    exact congrArg some e

theorem ObjM.look {h : Heap} {x dx C : Addr} {mA : Str → Option Value} (I : ObjM h x dx C mA) : ∃ od, PySem.W.InstAt h x (PySem.W.instObj C dx) C (some od) ∧ ∀ name, PySem.W.lookIn name od = some (mA name) :=
  let ⟨od, ho, hl⟩ := lookIn_ns I.ns
  ⟨od, ⟨I.obj, rfl, rfl, ho⟩, hl⟩

section
variable {prog : Program} {w : World} {A : Around} {E : Value → Shared → Prop} {s : Shared} {K : PySem.W.Frag} {x dx C f : Addr} {mA : Str → Option Value} {name : Str} {v : Value}

theorem get_map {expr : Bool} {Q : Value → Shared → Prop} (X : K.In s.heap) (I : ObjM s.heap x dx C mA) (hg : PySem.W.plainGet K C name = true) (hh : PySem.W.hasDictIn K C = true)
    (ha : PySem.W.findIn K (.ref C) name = some none) (hv : mA name = some v) (hv' : PySem.W.handedIn v = true) (h : Q v { s with toks := s.toks + 1 }) :
    wpAny (model prog w) A (getAttr (.ref x) name expr) Q E s := by
  obtain ⟨od, J, hl⟩ := I.look
  exact PySem.W.get_value X J (PySem.W.plainGet_of hg).1 (PySem.W.findObj_own hh ha rfl (by rw [hl, hv])) hv' h

theorem get_meth {pl : Sem Bool} {Q : Value × List Value → Shared → Prop} (X : K.In s.heap) (I : ObjM s.heap x dx C mA) (hg : PySem.W.plainGet K C name = true)
    (hf : PySem.W.findIn K (.ref C) name = some (some (.ref f))) (ht : PySem.W.isFn K (.ref f) = true) (hv : mA name = none) (h : Q (.ref f, [.ref x]) s) :
    wpAny (model prog w) A (getMethod (.ref x) name pl) Q E s := by
  obtain ⟨od, J, hl⟩ := I.look
  exact PySem.W.method_fn X J (PySem.W.plainGet_of hg).1 (PySem.W.plainGet_of hg).2 hf (beq_iff_eq.mp ht) (by show (PySem.W.lookIn name od).map (·.isSome) = some false; rw [hl, hv]; rfl) h

theorem set_map {ns : List Str} {Q : Unit → Shared → Prop} (X : K.In s.heap) (I : ObjM s.heap x dx C mA)
    (hs : PySem.W.findIn K (.ref C) "__setattr__" = some (some (.builtin "object.__setattr__"))) (hp : PySem.W.plainOver K C = true) (ht : PySem.W.takerIn K C name = some none) (hh : PySem.W.hasDictIn K C = true)
    (hw : PySem.Within mA ns) (hsz : ns.length ≤ sizeLine)
    (h : ∀ h', ObjM h' x dx C (fun y => if y = name then some v else mA y) → Heap.SameBut dx s.heap h' → Q () { s with heap := h', toks := s.toks + 2 }) :
    wpAny (model prog w) A (setAttr (.ref x) name v) Q E s := by
  obtain ⟨od, J, hl⟩ := I.look
  refine PySem.W.set_plain X J hs (PySem.W.osa_open (s := { s with toks := s.toks + 1 }) (r := none) X J hp ht fun b => ?_)
  obtain ⟨cd, hc, hd'⟩ := PySem.W.any_some hh
  have hx : s.heap.get? x = some ⟨.ref C, some dx, .plain, #[]⟩ := I.obj
  refine wpAny_bind (wpAny_pure (wpAny_bind (wpAny_bind (wpAny_loadPart hx (wpAny_bind (PySem.W.Looks.here (s := { s with toks := s.toks + 1 }) (PySem.W.looks_clsIn X hc) ?_))))))
  rw [hd']
  refine wpAny_pure (a := some dx) (wpAny_bind (wpAny_pure (wpAny_bind ?_)))
  refine wpAny_nsSet1 (s := { s with toks := s.toks + 1 }) I.ns fun h' hn2 hs2 => ?_
  obtain ⟨oD, esD, epD, hoD, hdD, hcD⟩ := hn2.count (PySem.Within.cons name v hw)
  refine wpAny_bind (wpAny_lookBehind hoD (by rw [hdD]; exact pastItsLine_dict (Nat.le_trans hcD (by rw [List.length_cons]; omega))) ?_)
  exact wpAny_pure (h _ ⟨(hs2.2 _ (Ne.symm I.ne)).trans I.obj, hn2, I.ne⟩ hs2)

/-- C(..): the dict at the heap's end, the instance behind it; then its __init__ -/
theorem make_map {R : Result → Shared → Prop} {vs : List Value} {kw : List (Str × Value)} (X : K.In s.heap) (hm : PySem.W.makesIn K C = true)
    (hi : PySem.W.findIn K (.ref C) "__init__" = some (some (.ref f))) (hf : PySem.W.typeIn K (.ref f) = some (.type "function"))
    (h : codeAny (model prog w) (A.under (.builtin "type.__call__" ⟨.ref C :: vs, kw⟩)) (.call (.ref f) ⟨.ref (s.heap.objs.size + 1) :: vs, kw⟩) (PySem.W.InitBack (s.heap.objs.size + 1) R)
      { s with heap := (s.heap.push PySem.W.emptyDict).push (PySem.W.instObj C s.heap.objs.size) }) :
    codeAny (model prog w) A (.call (.ref C) ⟨vs, kw⟩) R s := by
  obtain ⟨hh, g, d, t, os⟩ := s
  exact PySem.W.make_core (PySem.W.makes_of X hm) (PySem.W.looks_findIn X hi) (fun self => PySem.W.bind_fn X self hf) (.inl rfl) h
end

/-! ### the attributes as a list of pairs -/
def putF (f : Str) (v : V) : List (Str × V) → List (Str × V)
  | [] => [(f, v)]
  | (g, x) :: r => if g = f then (g, v) :: r else (g, x) :: putF f v r
theorem lookup_putF (f g : Str) (v : V) : ∀ fs : List (Str × V), (putF f v fs).lookup g = if g = f then some v else fs.lookup g
  | [] => by
    show List.lookup g [(f, v)] = _
    by_cases h : g = f
    · have hb : (g == f) = true := beq_iff_eq.mpr h
      simp only [List.lookup, hb, if_pos h]
    · have hb : (g == f) = false := beq_eq_false_iff_ne.mpr h
      simp only [List.lookup, hb, if_neg h]
  | (k, x) :: r => by
    have ih := lookup_putF f g v r
    rw [show putF f v ((k, x) :: r) = (if k = f then (k, v) :: r else (k, x) :: putF f v r) from rfl]
    by_cases hk : k = f
    · rw [if_pos hk]
      by_cases h : g = k
      · have hb : (g == k) = true := beq_iff_eq.mpr h
        simp only [List.lookup, hb, if_pos (h.trans hk)]
      · have hb : (g == k) = false := beq_eq_false_iff_ne.mpr h
        simp only [List.lookup, hb, if_neg (fun e : g = f => h (e.trans hk.symm))]
    · rw [if_neg hk]
      by_cases h : g = k
      · have hb : (g == k) = true := beq_iff_eq.mpr h
        simp only [List.lookup, hb, if_neg (fun e : g = f => hk (h.symm.trans e))]
      · have hb : (g == k) = false := beq_eq_false_iff_ne.mpr h
        simp only [List.lookup, hb]
        exact ih
theorem keys_putF (f : Str) (v : V) : ∀ fs : List (Str × V), f ∈ (putF f v fs).map (·.1) ∧ ∀ g, g ∈ fs.map (·.1) → g ∈ (putF f v fs).map (·.1)
  | [] => ⟨by simp [putF], fun g h => by simp at h⟩
  | (k, x) :: r => by
    obtain ⟨i1, i2⟩ := keys_putF f v r
    rw [show putF f v ((k, x) :: r) = (if k = f then (k, v) :: r else (k, x) :: putF f v r) from rfl]
    by_cases hk : k = f
    · rw [if_pos hk]
      subst hk
      exact ⟨by simp, fun g h => by simpa using h⟩
    · rw [if_neg hk]
      refine ⟨?_, fun g h => ?_⟩
      · rw [List.map_cons]
        exact List.mem_cons_of_mem _ i1
      · rw [List.map_cons] at h ⊢
        rcases List.mem_cons.mp h with e | e
        · exact List.mem_cons.mpr (.inl e)
        · exact List.mem_cons_of_mem _ (i2 g e)
theorem length_putF (f : Str) (v : V) : ∀ fs : List (Str × V), (putF f v fs).length ≤ fs.length + 1
  | [] => by simp [putF]
  | (k, x) :: r => by
    have ih := length_putF f v r
    rw [show putF f v ((k, x) :: r) = (if k = f then (k, v) :: r else (k, x) :: putF f v r) from rfl]
    by_cases hk : k = f
    · rw [if_pos hk, List.length_cons, List.length_cons]; omega
    · rw [if_neg hk, List.length_cons, List.length_cons]; omega

theorem RelO.some_of {v : V} {o : Option Value} (r : RelO (some v) o) : ∃ u, o = some u ∧ RelV v u := by
  cases o with
  | none => exact (show False from r).elim
  | some u => exact ⟨u, rfl, r⟩
theorem RelO.none_of {o : Option Value} (r : RelO none o) : o = none := by
  cases o with
  | none => rfl
  | some u => exact (show False from r).elim
theorem handed_of {v : V} {u : Value} (r : RelV v u) : PySem.W.handedIn u = true := by
  cases v with
  | non => cases (show u = Value.none from r); rfl
  | bl b => cases (show u = Value.bool b from r); rfl
  | int i => obtain ⟨t, e⟩ := (show ∃ t, u = Value.int i t from r); cases e; rfl
  | str x => obtain ⟨t, e⟩ := (show ∃ t, u = Value.str x t from r); cases e; rfl
  | byt b => obtain ⟨t, e⟩ := (show ∃ t, u = Value.bytes b t from r); cases e; rfl
  | flt b => obtain ⟨t, e⟩ := (show ∃ t, u = Value.float b t from r); cases e; rfl
  | ref a => cases (show u = Value.ref a from r); rfl
  | ty n => cases (show u = Value.type n from r); rfl

section
variable {P : Program} {w : World} {H H' : Hp} {h h' : Heap} {a C dx : Addr} {fs fs' : List (Str × V)}
theorem ins_get (hok : HOk P w H h) (e : H a = some (.ins C dx fs)) : ∃ mA, ObjM h a dx C mA ∧ (∀ f, RelO (fs.lookup f) (mA f)) ∧ PySem.Within mA (fs.map (·.1)) ∧ fs.length ≤ 1000 ∧ H dx = some (.own a) := by
  obtain ⟨d, z, ne, ob, mA, n, r, q⟩ := (show ObjOk P w H h a (.ins C dx fs) from hok a _ e)
  exact ⟨mA, ⟨ob, n, ne⟩, r, q, z, d⟩
end

/-! ### what of the text a class must have -/
structure Cls (K : PySem.W.Frag) (C : Addr) : Prop where
  pg : PySem.W.plainGet K C Str.empty = true
  hd : PySem.W.hasDictIn K C = true
  po : PySem.W.plainOver K C = true
  sa : PySem.W.findIn K (.ref C) "__setattr__" = some (some (.builtin "object.__setattr__"))
theorem Cls.get {K : PySem.W.Frag} {C : Addr} (c : Cls K C) (f : Str) : PySem.W.plainGet K C f = true := c.pg
/-- no class of it has the name -/
def NoAttr (K : PySem.W.Frag) (C : Addr) (f : Str) : Prop := PySem.W.findIn K (.ref C) f = some none
theorem NoAttr.taker {K : PySem.W.Frag} {C : Addr} {f : Str} (n : NoAttr K C f) : PySem.W.takerIn K C f = some none := by
  unfold PySem.W.takerIn
  rw [show PySem.W.findIn K (.ref C) f = some none from n]
  rfl
/-- a method: a plain def of the class or of one above it -/
structure Meth (K : PySem.W.Frag) (C : Addr) (m : Str) (f : Addr) : Prop where
  at_ : PySem.W.findIn K (.ref C) m = some (some (.ref f))
  fn : PySem.W.isFn K (.ref f) = true
  kp : PySem.W.keepIn K (.ref f) = true

section
variable {X : Cx} {pins : List (Addr × Obj)} {σ : St} {H : Hp} {s : Shared} {a C dx : Addr} {fs : List (Str × V)} {f : Str} {v : V} {A : Around} {E : Value → Shared → Prop}

theorem getattr_ok {b : Bool} {Q : Value → Shared → Prop} (I : Inv X pins σ H s) (e : H a = some (.ins C dx fs)) (c : Cls X.K C) (n : NoAttr X.K C f) (l : fs.lookup f = some v)
    (h : ∀ u s', Inv X pins σ H s' → RelV v u → Q u s') : wpAny (model X.prog X.w) A (getAttr (.ref a) f b) Q E s := by
  obtain ⟨mA, O, r, _, _, _⟩ := ins_get I.hok e
  obtain ⟨u, hu, ru⟩ := RelO.some_of (v := v) (o := mA f) (by rw [← l]; exact r f)
  exact get_map I.kIn O (c.get f) c.hd n hu (handed_of ru) (h u _ (I.tok _) ru)

theorem getmeth_ok {m : Str} {g : Addr} {pl : Sem Bool} {Q : Value × List Value → Shared → Prop} (I : Inv X pins σ H s) (e : H a = some (.ins C dx fs)) (c : Cls X.K C) (k : Meth X.K C m g) (l : fs.lookup m = none)
    (h : Q (.ref g, [.ref a]) s) : wpAny (model X.prog X.w) A (getMethod (.ref a) m pl) Q E s := by
  obtain ⟨mA, O, r, _, _, _⟩ := ins_get I.hok e
  have hn : mA m = none := RelO.none_of (by rw [← l]; exact r m)
  exact get_meth I.kIn O (c.get m) k.at_ k.fn hn h

theorem setattr_ok {y : V} {u : Value} {Q : Unit → Shared → Prop} (I : Inv X pins σ H s) (e : H a = some (.ins C dx fs)) (c : Cls X.K C) (n : NoAttr X.K C f) (hl : fs.length < 1000) (ry : RelV y u)
    (h : ∀ s', Inv X pins σ (upd H a (.ins C dx (putF f y fs))) s' → Q () s') : wpAny (model X.prog X.w) A (setAttr (.ref a) f u) Q E s := by
  obtain ⟨mA, O, r, wi, _, ho⟩ := ins_get I.hok e
  have hz : (fs.map (·.1)).length ≤ sizeLine := by rw [List.length_map, sizeLine_eq]; omega
  refine set_map I.kIn O c.sa c.po n.taker c.hd wi hz fun h' O' sb => h _ ?_
  have hd : ∃ o, h'.get? dx = some o := let ⟨o, _, _, e', _⟩ := O'.ns; ⟨o, e'⟩
  refine I.write (x := a) (e := dx) (by rw [e]; exact True.intro) (.inr ho) (fun b q hb z => (sb.2 b hb).trans z) hd ?_
  refine ⟨by rw [upd_ne O.ne]; exact ho, ?_, O.ne, O'.obj, _, O'.ns, fun g => ?_, fun g hg => ?_⟩
  · have := length_putF f y fs; omega
  · show RelO ((putF f y fs).lookup g) (if g = f then some u else mA g)
    rw [lookup_putF]
    by_cases q : g = f
    · rw [if_pos q, if_pos q]; exact ry
    · rw [if_neg q, if_neg q]; exact r g
  · by_cases q : g = f
    · rw [q]; exact (keys_putF f y fs).1
    · refine (keys_putF f y fs).2 g (wi g fun z => hg ?_)
      show (if g = f then some u else mA g) = none
      rw [if_neg q]; exact z

/-- a new instance, tracked, without attributes -/
theorem Inv.made (I : Inv X pins σ H s) : Inv X pins σ (upd (upd H s.heap.objs.size (.own (s.heap.objs.size + 1))) (s.heap.objs.size + 1) (.ins C s.heap.objs.size []))
    { s with heap := (s.heap.push PySem.W.emptyDict).push (PySem.W.instObj C s.heap.objs.size) } := by
  have e1 : (s.heap.push PySem.W.emptyDict).get? s.heap.objs.size = some PySem.W.emptyDict := Heap.get?_push_size s.heap rfl
  have e2 : ((s.heap.push PySem.W.emptyDict).push (PySem.W.instObj C s.heap.objs.size)).get? (s.heap.objs.size + 1) = some (PySem.W.instObj C s.heap.objs.size) := by
    have := Heap.get?_push_size (s.heap.push PySem.W.emptyDict) (o := PySem.W.instObj C s.heap.objs.size) rfl
    rwa [Heap.size_push] at this
  have e3 : (s.heap.push PySem.W.emptyDict).Ns s.heap.objs.size (fun _ => none) := ⟨PySem.W.emptyDict, #[], _, e1, rfl, (fun e he => absurd he (by simp)), fun _ => rfl⟩
  have I1 := I.laid (a := s.heap.objs.size) (o := .own (s.heap.objs.size + 1)) (h' := s.heap.push PySem.W.emptyDict) (t' := s.toks) (fun b u q => Heap.get?_push_of_some _ q) (Nat.le_refl _) ⟨_, e1⟩
  refine I1.laid (a := s.heap.objs.size + 1) (o := .ins C s.heap.objs.size []) (t' := s.toks) (fun b u q => Heap.get?_push_of_some _ q) (Nat.le_of_eq (Heap.size_push _ _)) ?_
  have ne : s.heap.objs.size ≠ s.heap.objs.size + 1 := Nat.ne_of_lt (Nat.lt_succ_self _)
  refine ⟨by rw [upd_ne ne, upd_same], Nat.zero_le _, ne, e2, fun _ => none, (Heap.Ns1.of_empty e3).at fun o q => Heap.get?_push_of_some _ q, fun _ => True.intro, fun y hy => absurd rfl hy⟩

/-- e.f where nothing but the object is asked: through attributeBase (super) and the last hold -/
theorem attr_of {prog : Program} {w : World} {env : Env} {e : Expr} {f : Str} {pos : Pos} {s : Shared} {Q : Value → Shared → Prop} (hb : attributeBase e f env (eval e env) = eval e env)
    (h : wpAny (model prog w) A (eval e env) (fun o s₁ => wpAny (model prog w) A (getAttr o f true) Q E s₁) E s) : wpAny (model prog w) A (eval (.Attribute e f pos) env) Q E s :=
  Attribute_any_ h (by rw [arm_eval_Attribute, hb])
end

/-! ### readings and rules -/
/-- e.f, an attribute of the instance -/
def tFld (K : PySem.W.Frag) (ta : TE) (f : Str) : TE := fun σ H Q => ta σ H fun x H1 => ∃ a C dx fs v, x = .ref a ∧ H1 a = some (.ins C dx fs) ∧ Cls K C ∧ NoAttr K C f ∧ fs.lookup f = some v ∧ Q v H1
/-- e.f = value -/
def sFld (K : PySem.W.Frag) (ta tv : TE) (f : Str) : TS := fun D σ H => tv σ H fun y H1 => ta σ H1 fun x H2 => ∃ a C dx fs, x = .ref a ∧ H2 a = some (.ins C dx fs) ∧ Cls K C ∧ NoAttr K C f ∧ fs.length < 1000 ∧
  D.nx σ (upd H2 a (.ins C dx (putF f y fs)))
section
variable {X : Cx} {o e value : Expr} {f : Str} {pos pos' tpos : Pos} {ta tv : TE}
theorem pe_fld (he : PE X e ta) (hb : attributeBase e f X.env (eval e X.env) = eval e X.env) : PE X (.Attribute e f pos) (tFld X.K ta f) := by
  intro pins s σ H Q I h
  refine attr_of hb (thn (he pins s σ H _ I h) fun u s1 ⟨x, H1, I1, rx, a, C, dx, fs, v, ex, ea, c, n, l, q⟩ => ?_)
  subst ex
  obtain rfl : u = Value.ref a := rx
  exact getattr_ok I1 ea c n l fun u' s2 I2 ru => ⟨v, H1, I2, ru, q⟩
theorem ps_fld (ha : PE X o ta) (hv : PE X value tv) (hs : swapsWith value (some (.Attribute o f pos')) pos.line X.env = pure false) : PS X (.Assign [.Attribute o f pos'] value pos) (sFld X.K ta tv f) := by
  intro pins s σ H D I h
  refine plainObj_wpAny_Assign_Attribute (thn (hv pins s σ H _ I h) fun u s1 ⟨y, H1, I1, ry, q⟩ => thn (ha pins s1 σ H1 _ I1 q) fun ov s2 ⟨x, H2, I2, rx, a, C, dx, fs, ex, ea, c, n, l, q2⟩ => ?_) hs
  subst ex
  obtain rfl : ov = Value.ref a := rx
  exact setattr_ok I2 ea c n l ry fun s3 I3 => ⟨σ, _, I3, q2⟩
end

/-! ### isinstance -/
section
variable {X : Cx} {pins : List (Addr × Obj)} {σ : St} {H : Hp} {s : Shared} {A : Around} {E : Value → Shared → Prop} {Q : Value → Shared → Prop} {c : Value} {b : Bool}
end
end L2

namespace L2
open PySem PySem.Spec PyProof.Rows

/-! ### room -/
structure Room (k : Nat) (A : Around) : Prop where
  hd : A.handled = none
  dp : A.depth + 3 * k + 5 < recursionLimit
  un : A.units + 16 * k + 200 < cLine
theorem Room.mono {j k : Nat} {A : Around} (r : Room k A) (h : j ≤ k) : Room j A := ⟨r.hd, by have := r.dp; omega, by have := r.un; omega⟩
theorem Room.deeper {k : Nat} {A : Around} (r : Room (k + 1) A) (env : Env) : Room k (A.deeper env) :=
  ⟨r.hd, by have := r.dp; show A.depth + 1 + 3 * k + 5 < _; omega, by have := r.un; show A.units + 3 + 16 * k + 200 < _; omega⟩
theorem Room.in1 {k : Nat} {A : Around} (r : Room (k + 1) A) : Room k A.in1 :=
  ⟨r.hd, by have := r.dp; show A.depth + 3 * k + 5 < _; omega, by have := r.un; show A.units + 1 + 16 * k + 200 < _; omega⟩
theorem make_depth {A : Around} {C : Addr} {us : List Value} {kw : List (Str × Value)} : (A.under (.builtin "type.__call__" ⟨.ref C :: us, kw⟩)).depth = A.depth + 1 := by
  first | rfl | simp [Around.under, Code.weight, Code.isCreation, Code.isGuard, Code.isCaller, Code.frames, Code.isFrame, guardIds]
theorem make_units {A : Around} {C : Addr} {us : List Value} {kw : List (Str × Value)} : (A.under (.builtin "type.__call__" ⟨.ref C :: us, kw⟩)).units = A.units + 1 := by
  first | rfl | simp [Around.under, Code.cUnits, Code.frames, Code.isFrame]
theorem Room.make {k : Nat} {A : Around} (r : Room (k + 1) A) (C : Addr) (us : List Value) (kw : List (Str × Value)) : Room k (A.under (.builtin "type.__call__" ⟨.ref C :: us, kw⟩)) :=
  ⟨r.hd, by have := r.dp; rw [make_depth]; omega, by have := r.un; rw [make_units]; omega⟩
theorem Room.depth {k : Nat} {A : Around} (r : Room k A) : A.depth < recursionLimit := by have := r.dp; omega
theorem Room.units {k : Nat} {A : Around} (r : Room k A) : A.units + 64 < cLine := by have := r.un; omega
/-! ### argument lists and displays -/
def tNil : TA := fun _ H Q => Q [] H
def tCons (ta : TE) (tr : TA) : TA := fun σ H Q => ta σ H fun x H1 => tr σ H1 fun xs H2 => Q (x :: xs) H2
section
variable {X : Cx} {e : Expr} {es : List Expr} {te : TE} {t : TA} {pos : Pos}
theorem pa_nil : PA X [] tNil := fun _ _ _ _ H Q I h => Calls.spliced_nil ⟨[], H, I, .nil, h⟩
theorem pa_cons (ha : PE X e te) (hr : PA X es t) (hs : starEach (e :: es) X.env = (false, eval e X.env) :: starEach es X.env := by rfl) : PA X (e :: es) (tCons te t) := by
  intro pos pins s σ H Q I h
  rw [hs]
  show wpAny _ _ (spliced ((false, eval e X.env) :: backTo pos (starEach es X.env))) _ _ s
  refine Calls.spliced_cons (thn (ha pins s σ H _ I h) fun u s1 ⟨x, H1, I1, r1, q1⟩ => ?_)
  exact thn (hr pos pins s1 σ H1 _ I1 q1) fun us s2 ⟨xs, H2, I2, r2, q2⟩ => ⟨x :: xs, H2, I2, .cons r1 r2, q2⟩

/-- a tuple, a list of written items -/
def tTup (t : TA) : TE := fun σ H Q => t σ H fun xs H1 => xs.length ≤ sizeLine ∧ ∀ p, H1 p = none → Q (.ref p) (upd H1 p (.tup xs))
def tLst (t : TA) : TE := fun σ H Q => t σ H fun xs H1 => xs.length ≤ sizeLine ∧ ∀ p, H1 p = none → Q (.ref p) (upd H1 p (.lst xs))
theorem pe_tup {x1} (h : PA X es t) : PE X (.Tuple es x1 pos) (tTup t) := by
  intro pins s σ H Q I hq
  refine wpAny_Tuple_spliced (thn (h pos pins s σ H _ I hq) fun us s1 ⟨xs, H1, I1, r, z, q⟩ => ⟨by rw [← r.length]; exact z, ?_⟩)
  have hf : H1 s1.heap.objs.size = none := I1.hok.fresh (Nat.le_refl _)
  refine ⟨.ref s1.heap.objs.size, upd H1 s1.heap.objs.size (.tup xs), I1.laid (t' := s1.toks) (fun b u e => Heap.get?_push_of_some _ e) (Nat.le_refl _) ?_, rfl, q _ hf⟩
  exact ⟨z, us, r, ⟨_, Heap.get?_push_size _ rfl, rfl, _, rfl⟩⟩
theorem pe_lst (h : PA X es t) : PE X (.List es pos) (tLst t) := by
  intro pins s σ H Q I hq
  refine wpAny_List_spliced (thn (h pos pins s σ H _ I hq) fun us s1 ⟨xs, H1, I1, r, z, q⟩ => ⟨by rw [← r.length]; exact z, ?_⟩)
  have hf : H1 s1.heap.objs.size = none := I1.hok.fresh (Nat.le_refl _)
  refine ⟨.ref s1.heap.objs.size, upd H1 s1.heap.objs.size (.lst xs), I1.laid (t' := s1.toks) (fun b u e => Heap.get?_push_of_some _ e) (Nat.le_refl _) ?_, rfl, q _ hf⟩
  exact ⟨z, us, 0, r, Heap.get?_push_size _ rfl⟩
end

/-! ### what a def promises -/
/-- a def's promise: the bound arguments in the parameters' order, the heap, the wanted end, the wanted exception -/
abbrev Sp := List V → Hp → VK → XK → Prop
/-- how an exception lies behind a call (file 08 gives it): the callers' frames, abstract heap and state ahead of the call, the wish, the exception, the state -/
abbrev CXT := List Env → Hp → Shared → XK → Value → Shared → Prop

/-- the state at a call -/
structure Env0 (P : Program) (w : World) (K : PySem.W.Frag) (mg : Str → Option Value) (base : Heap) (A : Around) (outer : List Env) (s : Shared) (H : Hp) : Prop where
  frames : A.frames = some outer
  mod : Mod K mg base
  bs : ∀ b o, base.get? b = some o → s.heap.get? b = some o ∧ H b = none
  bsz : base.objs.size ≤ s.heap.objs.size
  funs : s.heap.FunFrames base outer
  frf : ∀ b ∈ frs outer, H b = none
  hok : HOk P w H s.heap
  bare : AllBare s.gens
/-- a call's end -/
def CE (outer : List Env) (P : Program) (w : World) (H : Hp) (s : Shared) (Q : VK) (u : Value) (s' : Shared) : Prop :=
  ∃ v H', s'.os = s.os ∧ AllBare s'.gens ∧ Un (frs outer) [] H H' s.heap s'.heap ∧ HOk P w H' s'.heap ∧ RelV v u ∧ Q v H'
def CR (CX : CXT) (outer : List Env) (P : Program) (w : World) (H : Hp) (s : Shared) (Q : VK) (E : XK) (r : Result) (s' : Shared) : Prop :=
  match r with
  | .ok (.ret u) => CE outer P w H s Q u s'
  | .ok _ => False
  | .error e => CX outer H s E e s'
structure FnOk (P : Program) (w : World) (K : PySem.W.Frag) (mg : Str → Option Value) (base : Heap) (CX : CXT) (k : Nat) (f : Addr) (fd : FuncData) (ps : List Str) (sp : Sp) : Prop where
  len : ∀ vs H Q E, sp vs H Q E → vs.length = ps.length
  run : ∀ (A : Around) (outer : List Env) (s : Shared) (H : Hp) (args : Args) (us : List Value) (vs : List V) (Q : VK) (E : XK), Room k A → Env0 P w K mg base A outer s H → BindsTo s fd args (ps.zip us) → Vals vs us → sp vs H Q E →
    codeAny (model P w) A (.call (.ref f) args) (CR CX outer P w H s Q E) s
theorem FnOk.mono {P : Program} {w : World} {K : PySem.W.Frag} {mg : Str → Option Value} {base : Heap} {CX : CXT} {j k : Nat} {f : Addr} {fd : FuncData} {ps : List Str} {sp : Sp} (F : FnOk P w K mg base CX j f fd ps sp) (h : j ≤ k) :
    FnOk P w K mg base CX k f fd ps sp := ⟨F.len, fun A outer s H args us vs Q E hr => F.run A outer s H args us vs Q E (hr.mono h)⟩
theorem Env0.make {P : Program} {w : World} {K : PySem.W.Frag} {mg : Str → Option Value} {base : Heap} {A : Around} {outer : List Env} {s : Shared} {H : Hp} (e : Env0 P w K mg base A outer s H) (C : Addr) (us : List Value) (kw : List (Str × Value)) :
    Env0 P w K mg base (A.under (.builtin "type.__call__" ⟨.ref C :: us, kw⟩)) outer s H := ⟨by first | exact e.frames | (simpa [Around.under, Code.envs, Code.isFrame, pushEnvs] using e.frames), e.mod, e.bs, e.bsz, e.funs, e.frf, e.hok, e.bare⟩
theorem Env0.in1 {P : Program} {w : World} {K : PySem.W.Frag} {mg : Str → Option Value} {base : Heap} {A : Around} {outer : List Env} {s : Shared} {H : Hp} (e : Env0 P w K mg base A outer s H) :
    Env0 P w K mg base A.in1 outer s H := ⟨e.frames, e.mod, e.bs, e.bsz, e.funs, e.frf, e.hok, e.bare⟩

section
variable {X : Cx} {pins : List (Addr × Obj)} {σ : St} {H : Hp} {s s' : Shared}
/-- from a body: what a callee wants -/
theorem Inv.env0 (I : Inv X pins σ H s) : Env0 X.prog X.w X.K X.mg X.base X.A X.stack s H :=
  ⟨I.ok.frames, I.ok.mod, I.bs, Nat.le_trans I.ok.bsz I.sz, I.stack, I.stkFree, I.hok, I.bare⟩
/-- behind a call -/
theorem Inv.after {Q : VK} {u : Value} (I : Inv X pins σ H s) (h : CE X.stack X.prog X.w H s Q u s') : EP X pins σ Q u s' := by
  obtain ⟨v, H', os, bare, un, hok, r, q⟩ := h
  obtain ⟨hh, g, d, t, os'⟩ := s'
  obtain rfl : os' = s.os := os
  exact ⟨v, H', I.call (h' := hh) (g' := g) (d' := d) (t' := t) (ch := []) un hok bare (fun b z => absurd z (by simp)), r, q⟩
end

/-! ### calls -/
/-- f(..): the written arguments, then the defaults dvs; E: what is wanted of an exception -/
def tCall (sp : Sp) (dvs : List V) (E : XK) (t : TA) : TE := fun σ H Q => t σ H fun vs H1 => sp (vs ++ dvs) H1 Q E
/-- o.m(..) of an instance of the class at C -/
def tMeth (C : Addr) (m : Str) (sp : Sp) (dvs : List V) (E : XK) (ta : TE) (t : TA) : TE := fun σ H Q => ta σ H fun x H1 => ∃ a dx fs, x = .ref a ∧ H1 a = some (.ins C dx fs) ∧ fs.lookup m = none ∧
  t σ H1 fun vs H2 => sp (x :: (vs ++ dvs)) H2 Q E
/-- C(..): a new instance and its dict, then __init__ -/
def tMake (C : Addr) (sp : Sp) (dvs : List V) (E : XK) (t : TA) : TE := fun σ H Q => t σ H fun vs H1 => ∀ x dx, H1 x = none → H1 dx = none → dx ≠ x →
  sp (.ref x :: (vs ++ dvs)) (upd (upd H1 dx (.own x)) x (.ins C dx [])) (fun v H2 => v = .non ∧ Q (.ref x) H2) E

/-- how the parameters are bound: us the positional arguments, kw the keywords' values by name, ds the defaults that fill up -/
def Binds (K : PySem.W.Frag) (fd : FuncData) (ps : List Str) (ds : List Value) : Prop :=
  ∀ (s : Shared) (us : List Value), K.In s.heap → (us ++ ds).length = ps.length → BindsTo s fd ⟨us, []⟩ (ps.zip (us ++ ds))
/-- every parameter is given -/
theorem Binds.all {K : PySem.W.Frag} {fd : FuncData} {ps : List Str} (h : ∀ us : List Value, us.length = ps.length → bindArgs fd ⟨us, []⟩ = pure (ps.zip us)) : Binds K fd ps [] := fun s us _ hl => by
  rw [List.append_nil] at hl ⊢
  exact .of_eq (h us hl)

/-- an exception of a callee reaches what this body wants of exceptions -/
def Passes (CX : CXT) (X : Cx) (E : XK) : Prop := ∀ (pins : List (Addr × Obj)) (σ : St) (H : Hp) (s : Shared) (e : Value) (s' : Shared), Inv X pins σ H s → CX X.stack H s E e s' → X.xe e s'

section
variable {X : Cx} {CX : CXT} {k : Nat} {f C : Addr} {fd : FuncData} {ps : List Str} {sp : Sp} {dvs : List V} {ds : List Value} {E : XK} {x m : Str} {p pos apos : Pos} {e o : Expr} {es : List Expr} {ta : TE} {t : TA}

/-- the callee runs -/
theorem run_fn {pins : List (Addr × Obj)} {σ : St} {H : Hp} {s : Shared} {Q : VK} {us : List Value} {vs : List V} (F : FnOk X.prog X.w X.K X.mg X.base CX k f fd ps sp) (hr : Room k X.A) (hb : Binds X.K fd ps ds) (hd : Vals dvs ds) (hx : Passes CX X E)
    (I : Inv X pins σ H s) (r : Vals vs us) (h : sp (vs ++ dvs) H Q E) : wpAny (model X.prog X.w) X.A (call (.ref f) us) (EP X pins σ Q) X.xe s := by
  have r2 : Vals (vs ++ dvs) (us ++ ds) := r.append hd
  have hl : (us ++ ds).length = ps.length := by rw [← r2.length]; exact F.len _ _ _ _ h
  refine wpAny_call (codeAny_mono (F.run X.A X.stack s H ⟨us, []⟩ (us ++ ds) (vs ++ dvs) Q E hr I.env0 (hb s us I.kIn hl) r2 h) fun r s' hq => ?_)
  cases r with
  | error e => exact hx pins σ H s e s' I hq
  | ok fl =>
    cases fl with
    | ret u => exact I.after hq
    | next => exact False.elim hq
    | brk => exact False.elim hq
    | cont => exact False.elim hq

theorem pe_call (F : FnOk X.prog X.w X.K X.mg X.base CX k f fd ps sp) (hr : Room k X.A) (hg : Gl X x) (hm : X.mg x = some (.ref f)) (hk : PySem.W.keepIn X.K (.ref f) = true) (hb : Binds X.K fd ps ds) (hd : Vals dvs ds) (hx : Passes CX X E)
    (ha : PA X (e :: es) t) (hdb : (x == ("__debug__" : Str)) = false := by decide) (he : starEach (e :: es) X.env = (false, eval e X.env) :: starEach es X.env := by rfl) (hpl : (backTo pos (starEach es X.env)).any (·.1) = false := by rfl) :
    PE X (.Call (.Name x p) (e :: es) [] pos) (tCall sp dvs E t) := by
  intro pins s σ H Q I h
  refine wpAny_Call_Name_kw (ld_glob I hg hm ?_ hdb)
  refine PySem.W.callWith_K (h₀ := X.base) I.ok.mod.kin hk (thn (ha pos pins s σ H _ I h) fun us s1 ⟨vs, H1, I1, r, q⟩ => ⟨I1.kIn, ?_⟩) he hpl
  exact run_fn F hr hb hd hx I1 r q
/-- o.m(e, ..) -/
theorem pe_meth {pl : Sem Bool} (he : PE X o ta) (c : Cls X.K C) (hm : Meth X.K C m f) (F : FnOk X.prog X.w X.K X.mg X.base CX k f fd ps sp) (hr : Room k X.A) (hb : Binds X.K fd ps ds) (hd : Vals dvs ds) (hx : Passes CX X E) (ha : PA X (e :: es) t)
    (hst : starEach (e :: es) X.env = (false, eval e X.env) :: starEach es X.env := by rfl) (hpl : (backTo pos (starEach es X.env)).any (·.1) = false := by rfl)
    (ht : eval (.Call (.Attribute o m apos) (e :: es) [] pos) X.env = (do
      let ov ← eval o X.env
      standAt apos.atName
      let (f, first) ← holding [ov] (getMethod ov m pl)
      callWith pos f first (backTo pos (starEach (e :: es) X.env)) (backToKw pos (keywordEach [] X.env))) := by rfl) :
    PE X (.Call (.Attribute o m apos) (e :: es) [] pos) (tMeth C m sp dvs E ta t) := by
  intro pins s σ H Q I h
  refine PySem.W.methodCall_KW (pl := pl) (thn (he pins s σ H _ I h) fun u s1 ⟨x, H1, I1, rx, a, dx, fs, ex, ea, l, q⟩ => ?_) ht
  subst ex
  obtain rfl : u = Value.ref a := rx
  refine getmeth_ok I1 ea c hm l ?_
  refine PySem.W.callWith_K (first := [.ref a]) (h₀ := X.base) I.ok.mod.kin hm.kp (thn (ha pos pins s1 σ H1 _ I1 q) fun us s2 ⟨vs, H2, I2, r, q2⟩ => ⟨I2.kIn, ?_⟩) hst hpl
  exact run_fn (us := .ref a :: us) (vs := .ref a :: vs) F hr hb hd hx I2 (.cons rfl r) q2
/-- o.m() -/
theorem pe_meth0 {pl : Sem Bool} (he : PE X o ta) (c : Cls X.K C) (hm : Meth X.K C m f) (F : FnOk X.prog X.w X.K X.mg X.base CX k f fd ps sp) (hr : Room k X.A) (hb : Binds X.K fd ps ds) (hd : Vals dvs ds) (hx : Passes CX X E)
    (ht : eval (.Call (.Attribute o m apos) [] [] pos) X.env = (do
      let ov ← eval o X.env
      standAt apos.atName
      let (f, first) ← holding [ov] (getMethod ov m pl)
      callWith pos f first (backTo pos (starEach [] X.env)) (backToKw pos (keywordEach [] X.env))) := by rfl) :
    PE X (.Call (.Attribute o m apos) [] [] pos) (tMeth C m sp dvs E ta tNil) := by
  intro pins s σ H Q I h
  refine PySem.W.methodCall_KW (pl := pl) (thn (he pins s σ H _ I h) fun u s1 ⟨x, H1, I1, rx, a, dx, fs, ex, ea, l, q⟩ => ?_) ht
  subst ex
  obtain rfl : u = Value.ref a := rx
  refine getmeth_ok I1 ea c hm l ?_
  exact PySem.W.callWith_K0 (first := [.ref a]) I1.kIn hm.kp (run_fn (us := [.ref a]) (vs := [.ref a]) F hr hb hd hx I1 (.cons rfl .nil) q)

/-- what a class must have to be made -/
structure Mk (K : PySem.W.Frag) (C f : Addr) : Prop where
  makes : PySem.W.makesIn K C = true
  init : PySem.W.findIn K (.ref C) "__init__" = some (some (.ref f))
  fn : PySem.W.isFn K (.ref f) = true
  kp : PySem.W.keepIn K (.ref C) = true

theorem run_make {pins : List (Addr × Obj)} {σ : St} {H : Hp} {s : Shared} {Q : VK} {us : List Value} {vs : List V} (M : Mk X.K C f) (F : FnOk X.prog X.w X.K X.mg X.base CX k f fd ps sp) (hr : Room (k + 1) X.A) (hb : Binds X.K fd ps ds) (hd : Vals dvs ds)
    (hx : Passes CX X E) (I : Inv X pins σ H s) (r : Vals vs us)
    (h : ∀ x dx, H x = none → H dx = none → dx ≠ x → sp (.ref x :: (vs ++ dvs)) (upd (upd H dx (.own x)) x (.ins C dx [])) (fun v H2 => v = .non ∧ Q (.ref x) H2) E) :
    wpAny (model X.prog X.w) X.A (call (.ref C) us) (EP X pins σ Q) X.xe s := by
  have hq := h (s.heap.objs.size + 1) s.heap.objs.size (I.hok.fresh (Nat.le_succ _)) (I.hok.fresh (Nat.le_refl _)) (Nat.ne_of_lt (Nat.lt_succ_self _))
  have I2 := Inv.made (C := C) I
  have r2 : Vals (V.ref (s.heap.objs.size + 1) :: (vs ++ dvs)) (Value.ref (s.heap.objs.size + 1) :: (us ++ ds)) := .cons rfl (r.append hd)
  have hl : (Value.ref (s.heap.objs.size + 1) :: us ++ ds).length = ps.length := by
    have e := r2.length
    rw [F.len _ _ _ _ hq] at e
    exact e.symm
  refine wpAny_call (make_map (f := f) I.kIn M.makes M.init (beq_iff_eq.mp M.fn) (codeAny_mono (F.run _ X.stack _ _ ⟨Value.ref (s.heap.objs.size + 1) :: us, []⟩ (Value.ref (s.heap.objs.size + 1) :: (us ++ ds)) _ _ E (hr.make C us [])
    (I2.env0.make C us []) (hb _ (Value.ref (s.heap.objs.size + 1) :: us) I2.kIn hl) r2 hq) fun r s' hq' => ?_))
  cases r with
  | error e => exact hx pins σ _ _ e s' I2 hq'
  | ok fl =>
    cases fl with
    | ret u =>
      obtain ⟨v, H', I3, rv, ev, q3⟩ := I2.after hq'
      subst ev
      exact ⟨rv, ⟨V.ref (s.heap.objs.size + 1), H', I3, rfl, q3⟩⟩
    | next => exact False.elim hq'
    | brk => exact False.elim hq'
    | cont => exact False.elim hq'
theorem pe_make (M : Mk X.K C f) (F : FnOk X.prog X.w X.K X.mg X.base CX k f fd ps sp) (hr : Room (k + 1) X.A) (hg : Gl X x) (hm : X.mg x = some (.ref C)) (hb : Binds X.K fd ps ds) (hd : Vals dvs ds) (hx : Passes CX X E)
    (ha : PA X (e :: es) t) (hdb : (x == ("__debug__" : Str)) = false := by decide) (he : starEach (e :: es) X.env = (false, eval e X.env) :: starEach es X.env := by rfl) (hpl : (backTo pos (starEach es X.env)).any (·.1) = false := by rfl) :
    PE X (.Call (.Name x p) (e :: es) [] pos) (tMake C sp dvs E t) := by
  intro pins s σ H Q I h
  refine wpAny_Call_Name_kw (ld_glob I hg hm ?_ hdb)
  refine PySem.W.callWith_K (h₀ := X.base) I.ok.mod.kin M.kp (thn (ha pos pins s σ H _ I h) fun us s1 ⟨vs, H1, I1, r, q⟩ => ⟨I1.kIn, ?_⟩) he hpl
  exact run_make M F hr hb hd hx I1 r q
theorem pe_make0 (M : Mk X.K C f) (F : FnOk X.prog X.w X.K X.mg X.base CX k f fd ps sp) (hr : Room (k + 1) X.A) (hg : Gl X x) (hm : X.mg x = some (.ref C)) (hb : Binds X.K fd ps ds) (hd : Vals dvs ds) (hx : Passes CX X E)
    (hdb : (x == ("__debug__" : Str)) = false := by decide) : PE X (.Call (.Name x p) [] [] pos) (tMake C sp dvs E tNil) := by
  intro pins s σ H Q I h
  refine wpAny_Call_Name_kw (ld_glob I hg hm ?_ hdb)
  exact PySem.W.callWith_K0 I.kIn M.kp (run_make (us := []) M F hr hb hd hx I .nil h)
end

/-! ### keywords -/
section
variable {X : Cx} {CX : CXT} {k : Nat} {f C : Addr} {fd : FuncData} {ps ks : List Str} {sp : Sp} {E : XK} {x m : Str} {p pos apos kpos : Pos} {e o : Expr} {es : List Expr} {kws : List Keyword} {te ta : TE} {t tk : TA} {nm : Option Str}
variable {g : List Value → List Value → List Value} {gV : List V → List V → List V}
end

/-! ### a def's body keeps its promise -/
/-- names: the parameters first -/
structure FnScope (N P : List Str) (sc : Scope) : Prop where
  kind : sc.kind = .function
  co : sc.isCoroutine = false
  gen : sc.isGenerator = false
  nd : N.Nodup
  pre : N.take P.length = P
  par : ∀ x ∈ P, sc.names.lookup x = some .local ∨ sc.names.lookup x = some .cell
  nofree : ∀ y ∈ sc.names, y.2 ≠ .free

theorem bindL_out {kindOf : Str → Option NameKind} {x : Str} : ∀ {binds : List (Str × Value)} {m : Str → Option Value}, (∀ v, (x, v) ∉ binds) → bindL kindOf binds m x = m x
  | [], _, _ => rfl
  | (n, v) :: r, m, h => by
    unfold bindL
    rw [bindL_out fun w hw => h w (List.mem_cons_of_mem _ hw)]
    split
    · have : x ≠ n := by rintro rfl; exact h v List.mem_cons_self
      simp [this]
    · rfl
theorem bindC_out {kindOf : Str → Option NameKind} {x : Str} : ∀ {binds : List (Str × Value)} {m : Str → Option Value}, (∀ v, (x, v) ∉ binds) → bindC kindOf binds m x = m x
  | [], _, _ => rfl
  | (n, v) :: r, m, h => by
    unfold bindC
    rw [bindC_out fun w hw => h w (List.mem_cons_of_mem _ hw)]
    split
    · rfl
    · have : x ≠ n := by rintro rfl; exact h v List.mem_cons_self
      simp [this]
theorem bindL_get {kindOf : Str → Option NameKind} {x : Str} {v : Value} : ∀ {P : List Str} {vs : List Value} {i : Nat} {m : Str → Option Value}, P.Nodup → P[i]? = some x → vs[i]? = some v → kindOf x = some .local →
    bindL kindOf (P.zip vs) m x = some v
  | [], _, _, _, _, h, _, _ => by simp at h
  | _ :: _, [], _, _, _, _, h, _ => by simp at h
  | p :: P, w :: vs, 0, m, nd, h1, h2, hk => by
    simp at h1 h2; subst h1; subst h2
    show bindL kindOf ((p, w) :: P.zip vs) m p = _
    unfold bindL
    rw [bindL_out fun v hv => (List.nodup_cons.mp nd).1 (List.of_mem_zip hv).1, if_pos hk]
    simp
  | p :: P, w :: vs, i + 1, m, nd, h1, h2, hk => by
    show bindL kindOf ((p, w) :: P.zip vs) m x = _
    unfold bindL
    exact bindL_get (i := i) (List.nodup_cons.mp nd).2 (by simpa using h1) (by simpa using h2) hk
theorem bindC_get {kindOf : Str → Option NameKind} {x : Str} {v : Value} : ∀ {P : List Str} {vs : List Value} {i : Nat} {m : Str → Option Value}, P.Nodup → P[i]? = some x → vs[i]? = some v → kindOf x ≠ some .local →
    bindC kindOf (P.zip vs) m x = some v
  | [], _, _, _, _, h, _, _ => by simp at h
  | _ :: _, [], _, _, _, _, h, _ => by simp at h
  | p :: P, w :: vs, 0, m, nd, h1, h2, hk => by
    simp at h1 h2; subst h1; subst h2
    show bindC kindOf ((p, w) :: P.zip vs) m p = _
    unfold bindC
    rw [bindC_out fun v hv => (List.nodup_cons.mp nd).1 (List.of_mem_zip hv).1, if_neg hk]
    simp
  | p :: P, w :: vs, i + 1, m, nd, h1, h2, hk => by
    show bindC kindOf ((p, w) :: P.zip vs) m x = _
    unfold bindC
    exact bindC_get (i := i) (List.nodup_cons.mp nd).2 (by simpa using h1) (by simpa using h2) hk

/-- the names' values at the entry -/
def start (N : List Str) (vs : List V) : St := vs.map some ++ List.replicate (N.length - vs.length) none

/-- the context of a def's body, at its entry; an exception leaves the frame, then lies as CX says -/
def cxOf (CX : CXT) (P : Program) (w : World) (K : PySem.W.Frag) (mg : Str → Option Value) (base : Heap) (N : List Str) (qual : Str) (scope : Scope) (f : Addr) (cd : Value) (A : Around) (outer : List Env) (s : Shared) (H : Hp) (E : XK) : Cx where
  prog := P
  w := w
  K := K
  mg := mg
  base := base
  A := A.deeper (envOfC qual scope s.heap.objs.size f cd)
  N := N
  s_0 := s
  H_0 := H
  env := envOfC qual scope s.heap.objs.size f cd
  outer := outer
  stack := envOfC qual scope s.heap.objs.size f cd :: outer
  ex := []
  calm := true
  fn := fun _ => true
  pn := []
  xe := fun e s' => wpAny (model P w) (A.deeper (envOfC qual scope s.heap.objs.size f cd)) (leaving (envOfC qual scope s.heap.objs.size f cd) e) (fun _ s'' => CX outer H s E e s'') (fun e' s'' => CX outer H s E e' s'') s'

theorem cell_has {sc : Scope} {n : Nat} {x : Str} (h : sc.names.lookup x = some .cell) : ∃ c, (cellsFrom n sc.names []).lookup x = some c := by
  have q := PySem.W.cellsFrom_some sc.names n [] (.inl h)
  exact Option.isSome_iff_exists.mp q

theorem inv_start {CX : CXT} {P : Program} {w : World} {K : PySem.W.Frag} {mg : Str → Option Value} {base : Heap} {N ps : List Str} {qual : Str} {scope : Scope} {f : Addr} {cd : Value} {A : Around} {outer : List Env} {s s1 : Shared} {H : Hp} {E : XK} {us : List Value} {vs : List V}
    (S : FnScope N ps scope) (hd : A.handled = none) (e0 : Env0 P w K mg base A outer s H) (hl : vs.length = ps.length) (r : Vals vs us)
    (x : InCallC s s.heap.objs.size (bindL (envOfC qual scope s.heap.objs.size f cd).kindOf (ps.zip us) fun _ => none) (cellsFrom (s.heap.objs.size + 1) scope.names []) (bindC (envOfC qual scope s.heap.objs.size f cd).kindOf (ps.zip us) fun _ => none) s1) :
    Inv (cxOf CX P w K mg base N qual scope f cd A outer s H E) [] (start N vs) H s1 := by
  have hpl : ps.length ≤ N.length := by have := congrArg List.length S.pre; rw [List.length_take] at this; omega
  obtain ⟨h1, tk, rfl, hk⟩ := x.done
  have noA : ∀ b : Addr, b ∉ (cxOf CX P w K mg base N qual scope f cd A outer s H E).ex := fun b z => absurd (show b ∈ ([] : List Addr) from z) (by simp)
  refine ⟨⟨e0.mod, S.kind, rfl, rfl, Nat.le_refl _, fun y z c h1 h2 => ?_, fun y hy => ?_, fun y c _ h => ?_, fun _ => hd, Around.frames_deeper e0.frames, .inr ⟨rfl, rfl⟩, fun b z => absurd z (noA b), e0.bs, e0.bsz, fun b _ _ => noA b, fun b z => absurd z (noA b), e0.funs, e0.frf⟩,
    rfl, e0.bare, Un.kept hk, ⟨_, x.toInCall.ns, fun i y v h1 h2 h3 => ?_⟩, fun y c h => ⟨_, x.cell y c h⟩, e0.hok.fresh (Nat.le_refl _), fun y c h => ?_, fun p hp => absurd (show p ∈ ([] : List (Addr × Obj)) from hp) (by simp), e0.hok.kept hk, ?_⟩
  · exact name_of_addr x.apart (PySem.mem_of_lookup h1) (PySem.mem_of_lookup h2)
  · have hy : scope.names.lookup y = some .cell ∨ scope.names.lookup y = some .free := hy
    rcases hy with hy | hy
    · exact cell_has hy
    · exact absurd rfl (S.nofree _ (PySem.mem_of_lookup hy))
  · exact Nat.le_of_lt (x.above y c (PySem.mem_of_lookup h))
  · have hi : i < vs.length := by
      unfold start at h2
      by_cases hi : i < vs.length
      · exact hi
      · rw [List.getElem?_append_right (by simpa using hi)] at h2
        rw [List.getElem?_replicate] at h2
        split at h2 <;> cases h2
    have ha : vs[i]? = some v := by
      unfold start at h2
      rw [List.getElem?_append_left (by simpa using hi), List.getElem?_map] at h2
      cases e : vs[i]? with
      | none => rw [e] at h2; cases h2
      | some a => rw [e] at h2; cases h2; rfl
    obtain ⟨u, hu, rv⟩ := r.get ha
    have hp : ps[i]? = some y := by
      rw [← S.pre, List.getElem?_take_of_lt (by omega)]; exact h1
    have ndP : ps.Nodup := by rw [← S.pre]; exact S.nd.sublist (List.take_sublist _ _)
    refine ⟨u, rv, ?_⟩
    rcases S.par y (List.mem_of_getElem? hp) with k | k
    · exact .inl ⟨k, bindL_get ndP hp hu k⟩
    · obtain ⟨c, e⟩ := cell_has (n := s.heap.objs.size + 1) k
      refine .inr ⟨.inl k, c, e, ?_⟩
      have q := x.cell y c e
      rw [bindC_get ndP hp hu (by show scope.names.lookup y ≠ _; rw [k]; decide)] at q
      exact q
  · exact e0.hok.fresh (Nat.le_of_lt (x.above y c (PySem.mem_of_lookup h)))
  · unfold start
    show _ = N.length
    rw [List.length_append, List.length_map, List.length_replicate]
    omega

/-- THE RULE: a def (or a method) of the text, by its body. The body's reading t is chosen for each entry; it is run at the parameters' values -/
theorem fn_of {CX : CXT} {P : Program} {w : World} {K : PySem.W.Frag} {mg : Str → Option Value} {base : Heap} {k : Nat} {f : Addr} {name qual : Str} {params : Arguments} {body : List Stmt} {scope : Scope} {dV kV doc pm cdv ct oc : Value} {an od : Option Addr}
    {osl : Array (Option Value)} {N ps : List Str} {sp : Sp} (lk : K.lookup f = some ⟨oc, od, .func (PySem.W.fnOf name qual params body scope dV kV doc pm an cdv ct), osl⟩) (hcd : PySem.W.codeIn K cdv qual = true) (S : FnScope N ps scope)
    (len : ∀ vs H Q E, sp vs H Q E → vs.length = ps.length)
    (hbody : ∀ (A : Around) (outer : List Env) (s : Shared) (H : Hp) (vs : List V) (Q : VK) (E : XK), Room k (A.deeper (envOfC qual scope s.heap.objs.size f cdv)) → sp vs H Q E →
      ∃ t, PSs (cxOf CX P w K mg base N qual scope f cdv A outer s H E) body t ∧ t { nx := fun _ H' => Q .non H', rt := Q } (start N vs) H) :
    FnOk P w K mg base CX (k + 1) f (PySem.W.fnOf name qual params body scope dV kV doc pm an cdv ct) ps sp := by
  refine ⟨len, fun A outer s H args us vs Q E hr e0 hb r hsp => ?_⟩
  have hl := len _ _ _ _ hsp
  have KX : K.In s.heap := e0.mod.kin.keeps fun b o e => (e0.bs b o e).1
  have lim : s.heap.NoLimit := e0.mod.nolimit.keeps fun b o e => (e0.bs b o e).1
  have hkind : ∀ y ∈ ps.zip us, scope.names.lookup y.1 = some .local ∨ (scope.names.lookup y.1 = some .cell ∧ ((cellsFrom (s.heap.objs.size + 1) scope.names []).lookup y.1).isSome = true) := fun ⟨n, v⟩ hy => by
    rcases S.par n (List.of_mem_zip hy).1 with q | q
    · exact .inl q
    · exact .inr ⟨q, PySem.W.cellsFrom_some _ _ _ (.inl q)⟩
  refine codeAny_call_function hr.depth (KX _ _ lk) rfl S.co S.gen rfl (PySem.W.codeRec_of KX hcd) (hb _ _ _ _ ?_)
  refine wpAny_newFunctionEnv_cells S.kind hkind fun env he s1 x => ?_
  subst he
  refine ⟨lim.keeps x.toInCall.keep, codeAny_func ?_⟩
  obtain ⟨t, ht, hq⟩ := hbody A outer s H vs Q E (hr.deeper _) hsp
  have I : Inv (cxOf CX P w K mg base N qual scope f cdv A outer s H E) [] (start N vs) H s1 := inv_start S hr.hd e0 hl r x
  refine wpAny_mono (ht [] s1 (start N vs) H _ I hq) (fun fl s' hs => ?_) fun e s' hs => hs
  have fin : ∀ {σ' : St} {H' : Hp} {v : V} {u : Value}, Inv (cxOf CX P w K mg base N qual scope f cdv A outer s H E) [] σ' H' s' → RelV v u → Q v H' → CE outer P w H s Q u s' :=
    fun {σ' H' v u} J rv q => ⟨v, H', J.os, J.bare, J.base, J.hok, rv, q⟩
  cases fl with
  | ret u =>
    obtain ⟨v, σ', H', J, rv, q⟩ := hs
    exact fin J rv q
  | next =>
    obtain ⟨σ', H', J, q⟩ := hs
    exact fin (v := V.non) (u := Value.none) J rfl q
  | brk =>
    obtain ⟨_, _, _, q⟩ := hs
    exact False.elim q
  | cont =>
    obtain ⟨_, _, _, q⟩ := hs
    exact False.elim q
end L2

namespace L2
open PySem PySem.Spec PyProof.Rows
section
variable {X : Cx} {x : Str} {p pos : Pos} {e : Expr} {es : List Expr} {t : TA} {id T : String} {r : List V → Hp → VK → Prop}

def tCB (r : List V → Hp → VK → Prop) (t : TA) : TE := fun σ H Q => t σ H fun vs H1 => r vs H1 Q
/-- f(e, ..), f a built-in function -/
theorem pe_callB (hc : CallR X (.builtin id) r) (hg : Gl X x) (hm : X.mg x = none) (hv : bootBuiltins x = some (.builtin id)) (ha : PA X (e :: es) t) (hn : x ≠ "__name__" := by decide) (hdb : (x == ("__debug__" : Str)) = false := by decide)
    (he : starEach (e :: es) X.env = (false, eval e X.env) :: starEach es X.env := by rfl) (hpl : (backTo pos (starEach es X.env)).any (·.1) = false := by rfl) : PE X (.Call (.Name x p) (e :: es) [] pos) (tCB r t) := by
  intro pins s σ H Q I h
  refine wpAny_Call_Name_kw (ld_blt I hg hm hv ?_ hn hdb)
  exact PyProof.Rows.callWith_builtin1 (thn (ha pos pins s σ H _ I h) fun us s1 ⟨vs, H1, I1, r1, q1⟩ => hc pins s1 σ H1 vs us Q I1 r1 q1) he hpl
/-- T(e, ..), T a built-in type -/
theorem pe_callTy (hc : CallR X (.type T) r) (hg : Gl X x) (hm : X.mg x = none) (hv : bootBuiltins x = some (.type T)) (ha : PA X (e :: es) t) (hn : x ≠ "__name__" := by decide) (hdb : (x == ("__debug__" : Str)) = false := by decide)
    (he : starEach (e :: es) X.env = (false, eval e X.env) :: starEach es X.env := by rfl) (hpl : (backTo pos (starEach es X.env)).any (·.1) = false := by rfl) : PE X (.Call (.Name x p) (e :: es) [] pos) (tCB r t) := by
  intro pins s σ H Q I h
  refine wpAny_Call_Name_kw (ld_blt I hg hm hv ?_ hn hdb)
  exact PyProof.Rows.callWith_type1 (thn (ha pos pins s σ H _ I h) fun us s1 ⟨vs, H1, I1, r1, q1⟩ => hc pins s1 σ H1 vs us Q I1 r1 q1) he hpl
end
end L2

namespace HT
open PySem PyProof.Rows

section
open PySem.SeqAt
open PySem.AutoSeq1 (wpAny_loadPart')
open PySem.MeetsSeq PySem.MeetsSeq2 PySem.MeetsSeq3

end

section
variable {prog : Program} {w : World} {A : Around} {E : Value → Shared → Prop} {s : Shared}

/-! ### t[a:b], not the whole -/
/-- a slice's bound as a place among n (d where it is left out) -/
def sIx (n d : Nat) : Option Int → Nat
  | none => d
  | some v => if v < 0 then (v + (n : Int)).toNat else min v.toNat n
theorem sIx_none (n d : Nat) : sIx n d none = d := rfl
theorem sIx_nat (n d k : Nat) : sIx n d (some (k : Int)) = min k n := by
  show (if (k : Int) < 0 then ((k : Int) + (n : Int)).toNat else min (k : Int).toNat n) = min k n
  rw [if_neg (by omega), Int.toNat_natCast]
end
end HT

namespace L2
open PySem PySem.Spec PyProof.Rows

/-! ### the parts of a slice -/
abbrev TO := St → Hp → (Option Int → Hp → Prop) → Prop
/-- a slice's part (left out, or an int) -/
def PO (X : Cx) (e : Option Expr) (t : TO) : Prop :=
  ∀ (pins : List (Addr × Obj)) (s : Shared) (σ : St) (H : Hp) (Q : Option Int → Hp → Prop), Inv X pins σ H s → t σ H Q →
    wpAny (model X.prog X.w) X.A (evalPart e X.env) (fun u s' => ∃ o H', Inv X pins σ H' s' ∧ IsPart u o ∧ Q o H') X.xe s
def tNoPart : TO := fun _ H Q => Q none H
def tPart (t : TE) : TO := fun σ H Q => t σ H fun x H1 => ∃ i, x = .int i ∧ Q (some i) H1

section
variable {X : Cx} {e : Expr} {te : TE} {lo hi : Option Expr} {tl th : TO} {pos p2 : Pos}

theorem po_none : PO X none tNoPart := by
  intro pins s σ H Q I h
  rw [evalPart_none]
  exact wpAny_pure ⟨none, H, I, .none, h⟩
theorem po_some (h : PE X e te) : PO X (some e) (tPart te) := by
  intro pins s σ H Q I hw
  rw [evalPart_some]
  refine thn (h pins s σ H _ I hw) fun u s1 ⟨x, H1, I1, r1, q1⟩ => ?_
  obtain ⟨i, rfl, q⟩ := q1
  obtain ⟨t, rfl⟩ := r1
  exact ⟨some i, H1, I1, .int i t, q⟩

/-- what a slice of a value is, by values: the slice object stands at sl -/
def SlR (X : Cx) (r : V → Option Int → Option Int → Hp → VK → Prop) : Prop :=
  ∀ (pins : List (Addr × Obj)) (s : Shared) (σ : St) (H : Hp) (x : V) (v vl vu : Value) (lo hi : Option Int) (sl : Addr) (Q : VK), Inv X pins σ H s → RelV x v → s.heap.IsSliceOf sl vl vu .none → IsPart vl lo → IsPart vu hi → r x lo hi H Q →
    ∃ T id, typeLookup (.type T) "__getitem__" = pure (some (.builtin id)) ∧ s.TypeIs v T ∧ wpAny (model X.prog X.w) X.A (getItem v (.ref sl)) (EP X pins σ Q) X.xe s
def tSl (r : V → Option Int → Option Int → Hp → VK → Prop) (te : TE) (tl th : TO) : TE := fun σ H Q => te σ H fun x H1 => tl σ H1 fun l H2 => th σ H2 fun u H3 => r x l u H3 Q
/-- a[lo:hi], any a -/
theorem pe_slice {r : V → Option Int → Option Int → Hp → VK → Prop} (hr : SlR X r) (he : PE X e te) (hl : PO X lo tl) (hu : PO X hi th) : PE X (.Subscript e (.Slice lo hi none p2) pos) (tSl r te tl th) := by
  intro pins s σ H Q I h
  refine Subscript_ (thn (he pins s σ H _ I h) fun v s1 ⟨x, H1, I1, r1, q1⟩ => ?_)
  refine wpAny_Slice (thn (hl pins s1 σ H1 _ I1 q1) fun vl s2 ⟨l, H2, I2, pl, q2⟩ => thn (hu pins s2 σ H2 _ I2 q2) fun vu s3 ⟨u, H3, I3, pu, q3⟩ => ?_)
  rw [evalPart_none]
  refine wpAny_pure ?_
  have I4 : Inv X pins σ H3 { s3 with heap := s3.heap.push { cls := .type "slice", data := .fields #[vl, vu, .none] } } := I3.kept (t' := s3.toks) fun b ob q => Heap.get?_push_of_some _ q
  obtain ⟨T, id, hT, ht, hg⟩ := hr pins { s3 with heap := s3.heap.push { cls := .type "slice", data := .fields #[vl, vu, .none] } } σ H3 x v vl vu l u s3.heap.objs.size Q I4 r1 (Heap.IsSliceOf.new ..) pl pu q3
  show wpAny (model X.prog X.w) X.A (subscriptTail e (.Slice lo hi none p2) v (.ref s3.heap.objs.size)) (EP X pins σ Q) X.xe { s3 with heap := s3.heap.push { cls := .type "slice", data := .fields #[vl, vu, .none] } }
  exact tail_any (ops := [.ref s3.heap.objs.size, v]) ht hT hg (by with_unfolding_all rfl)

/-- the items of xs[lo:hi] -/
def cutV (xs : List V) (lo hi : Option Int) : List V := (xs.drop (HT.sIx xs.length 0 lo)).take (HT.sIx xs.length xs.length hi - HT.sIx xs.length 0 lo)
theorem cutV_length (xs : List V) (lo hi : Option Int) : (cutV xs lo hi).length ≤ xs.length := by
  unfold cutV
  rw [List.length_take, List.length_drop]
  omega
/-! ### t < u, t + u -/
end
end L2

namespace L2
open PySem PySem.Spec PyProof.Rows

/-! ### places -/
/-- the place that an index of any sign means -/
def ixN (n : Nat) (i : Int) : Option Nat := if 0 ≤ i then (if i < n then some i.toNat else none) else if -(n : Int) ≤ i then some (i + n).toNat else none
def atI {α : Type} (xs : List α) (i : Int) : Option α := (ixN xs.length i).bind fun j => xs[j]?
theorem ixN_seq {n : Nat} {i : Int} {j : Nat} (h : ixN n i = some j) : seqIndex? i n = some j ∧ j < n ∧ -(n : Int) ≤ i ∧ i < n := by
  unfold ixN at h
  by_cases h0 : 0 ≤ i
  · rw [if_pos h0] at h
    by_cases h1 : i < n
    · rw [if_pos h1] at h
      have e : i.toNat = j := Option.some.inj h
      exact ⟨by rw [seqIndex_of h0 h1, e], by omega, by omega, h1⟩
    · rw [if_neg h1] at h; cases h
  · rw [if_neg h0] at h
    by_cases h1 : -(n : Int) ≤ i
    · rw [if_pos h1] at h
      have e : (i + n).toNat = j := Option.some.inj h
      exact ⟨by rw [seqIndex_neg (by omega) h1, e], by omega, h1, by omega⟩
    · rw [if_neg h1] at h; cases h
theorem atI_get {α : Type} {xs : List α} {i : Int} {v : α} (h : atI xs i = some v) : ∃ j, seqIndex? i xs.length = some j ∧ xs[j]? = some v ∧ j < xs.length ∧ -(xs.length : Int) ≤ i ∧ i < xs.length := by
  unfold atI at h
  cases e : ixN xs.length i with
  | none => rw [e] at h; cases h
  | some j =>
    rw [e] at h
    obtain ⟨h1, h2, h3, h4⟩ := ixN_seq e
    exact ⟨j, h1, h, h2, h3, h4⟩
theorem atI_nat {α : Type} {xs : List α} {j : Nat} {v : α} (h : xs[j]? = some v) : atI xs (j : Int) = some v := by
  have hj : j < xs.length := (List.getElem?_eq_some_iff.mp h).1
  have e : ixN xs.length (j : Int) = some j := by
    unfold ixN
    rw [if_pos (by omega), if_pos (by omega)]; simp
  unfold atI; rw [e]; exact h
/-! ### what may be subscripted -/
/-- what stands as an index of a plain subscript -/
def PlainIx (b : Expr) : Prop := ∀ o i, subscripted b false o i = operate [o, i] (getItem o i)
/-- a subscript by values -/
def IxR (X : Cx) (r : R2) : Prop :=
  ∀ (value slice : Expr) (pins : List (Addr × Obj)) (s : Shared) (σ : St) (H : Hp) (x y : V) (v u : Value) (Q : VK), Inv X pins σ H s → RelV x v → RelV y u → r x y H Q →
    subscripted slice false v u = operate [v, u] (getItem v u) → wpAny (model X.prog X.w) X.A (subscriptTail value slice v u) (EP X pins σ Q) X.xe s
/-- a call of a builtin's method by values: the receiver, the arguments -/
def MtR (X : Cx) (id : String) (r : V → List V → Hp → VK → Prop) : Prop :=
  ∀ (pins : List (Addr × Obj)) (s : Shared) (σ : St) (H : Hp) (x : V) (xs : List V) (v : Value) (us : List Value) (Q : VK), Inv X pins σ H s → RelV x v → Vals xs us → r x xs H Q →
    wpAny (model X.prog X.w) X.A (call (.builtin id) (v :: us)) (EP X pins σ Q) X.xe s
section
variable {X : Cx} {a b : Expr} {ta tb : TE} {pos : Pos}
/-- a[b] -/
theorem pe_ix {r : R2} (hr : IxR X r) (ha : PE X a ta) (hb : PE X b tb) (hs : PlainIx b) : PE X (.Subscript a b pos) (tOp r ta tb) := by
  intro pins s σ H Q I h
  exact Subscript_ (binT ha hb I h fun v u s2 x y H2 I2 rx ry q => hr a b pins s2 σ H2 x y v u Q I2 rx ry q (hs _ _))

def rIxL (K : PySem.W.Frag) : R2 := fun x y H Q => ∃ p xs i v, x = .ref p ∧ y = .int i ∧ SqL K H p xs ∧ atI xs i = some v ∧ Q v H
def rIxT (K : PySem.W.Frag) : R2 := fun x y H Q => ∃ p xs i v, x = .ref p ∧ y = .int i ∧ SqT K H p xs ∧ atI xs i = some v ∧ Q v H
theorem ix_list : IxR X (rIxL X.K) := by
  intro value slice pins s σ H x y v u Q I rx ry h hs
  obtain ⟨p, xs, i, z, rfl, rfl, hq, he, q⟩ := h
  cases rx
  obtain ⟨t, rfl⟩ := ry
  obtain ⟨its, r, pl, hz⟩ := I.list hq
  obtain ⟨j, h1, h2, h3, h4, h5⟩ := atI_get he
  obtain ⟨w, ew, rw'⟩ := r.get h2
  have hl := r.length
  have hn := line63
  have fin : EP X pins σ Q w s := ⟨z, H, I, rw', q⟩
  by_cases h0 : 0 ≤ i
  · have hj : i.toNat = j := by
      rw [seqIndex_of h0 h5] at h1
      exact Option.some.inj h1
    exact item_listR pl.isList h0 (by omega) (by rw [hj]; simpa using ew) fin hs
  · have hj : (i + (its.toArray.size : Int)).toNat = j := by
      rw [seqIndex_neg (by omega) h4] at h1
      rw [List.size_toArray, ← hl]
      exact Option.some.inj h1
    exact subscriptTail_builtinR (x := w) pl.isList.typeIs slot_list_getitem.lookup
      (wpAny_getItem_list_neg (Q := fun r s' => r = w ∧ EP X pins σ Q r s') pl.isList (by omega) (by rw [List.size_toArray] <;> omega) (by omega) (by rw [hj]; simpa using ew) ⟨rfl, fin⟩) hs
theorem ix_tup : IxR X (rIxT X.K) := by
  intro value slice pins s σ H x y v u Q I rx ry h hs
  obtain ⟨p, xs, i, z, rfl, rfl, hq, he, q⟩ := h
  cases rx
  obtain ⟨t, rfl⟩ := ry
  obtain ⟨its, r, pl, hz⟩ := I.tuple hq
  obtain ⟨j, h1, h2, h3, h4, h5⟩ := atI_get he
  obtain ⟨w, ew, rw'⟩ := r.get h2
  have hl := r.length
  have hn := line63
  have fin : EP X pins σ Q w s := ⟨z, H, I, rw', q⟩
  exact subscriptTail_builtinR (x := w) pl.typeIs slot_tuple_getitem.lookup
    (getItem_tuple (j := j) (Q := fun r s' => r = w ∧ EP X pins σ Q r s') pl (by omega) (by omega) (by rw [List.size_toArray, ← hl]; exact h1) (by simpa using ew) ⟨rfl, fin⟩) hs
/-! ### xs[i] = v, any sign -/
/-! ### slices -/
theorem slice_bounds (lo hi : Option Int) (n : Nat) : (sliceBounds lo hi none n).1 = ((HT.sIx n 0 lo : Nat) : Int) ∧ (sliceBounds lo hi none n).2.1 = ((HT.sIx n n hi : Nat) : Int) ∧ (sliceBounds lo hi none n).2.2 = 1 := by
  refine ⟨?_, ?_, rfl⟩
  · cases lo with
    | none => simp [sliceBounds, HT.sIx]
    | some i =>
      simp only [sliceBounds, HT.sIx, Option.getD_none, show (1 : Int) > 0 by decide, if_true]
      by_cases h : i < 0
      · simp only [h, if_true] <;> omega
      · simp only [h, if_false] <;> omega
  · cases hi with
    | none => simp [sliceBounds, HT.sIx]
    | some i =>
      simp only [sliceBounds, HT.sIx, Option.getD_none, show (1 : Int) > 0 by decide, if_true]
      by_cases h : i < 0
      · simp only [h, if_true] <;> omega
      · simp only [h, if_false] <;> omega
theorem slicePick_cut (its : List Value) (lo hi : Option Int) : slicePick its.toArray lo hi none = ((its.drop (HT.sIx its.length 0 lo)).take (HT.sIx its.length its.length hi - HT.sIx its.length 0 lo)).toArray := by
  obtain ⟨h1, h2, h3⟩ := slice_bounds lo hi its.toArray.size
  unfold slicePick
  rw [h1, h2, h3]
  simp only [sliceRange_one, pick_run, List.size_toArray] <;> rfl
/-- xs[lo:hi] of a list: a new list -/
def rSlL (K : PySem.W.Frag) : V → Option Int → Option Int → Hp → VK → Prop := fun x lo hi H Q => ∃ a xs, x = .ref a ∧ SqL K H a xs ∧ ∀ p, H p = none → Q (.ref p) (upd H p (.lst (cutV xs lo hi)))
theorem sl_list : SlR X (rSlL X.K) := by
  intro pins s σ H x v vl vu lo hi sl Q I rx hs pl pu h
  obtain ⟨a, xs, rfl, hx, q⟩ := h
  cases rx
  obtain ⟨its, r, ht, hz⟩ := I.list hx
  have hlen := r.length
  refine ⟨"list", _, slot_list_getitem.lookup, ht.isList.typeIs, ?_⟩
  refine wpAny_getItem_list_slice ht.isList hs pl pu .none (by simp) ?_ (by rw [List.size_toArray] <;> omega)
  rw [slicePick_cut, ← hlen]
  refine ⟨.ref s.heap.objs.size, _, I.laid (t' := s.toks) (o := .lst (cutV xs lo hi)) (fun b ob q => Heap.get?_push_of_some _ q) (Nat.le_refl _) ?_, rfl, q _ (I.hok.fresh (Nat.le_refl _))⟩
  exact ⟨Nat.le_trans (cutV_length xs lo hi) hz, _, 0, (r.drop (HT.sIx xs.length 0 lo)).take (HT.sIx xs.length xs.length hi - HT.sIx xs.length 0 lo), Heap.get?_push_size _ rfl⟩

/-! ### in, not in: flat items -/
/-! ### len, list(x), tuple(x) of any list or tuple that is read -/
theorem call_len_seq : CallR X (.builtin "len") (fun xs H Q => ∃ p ys, xs = [.ref p] ∧ (SqL X.K H p ys ∨ SqT X.K H p ys) ∧ Q (.int ys.length) H) := by
  intro pins s σ H xs us Q I r h
  obtain ⟨p, ys, rfl, hq, q⟩ := h
  obtain ⟨u, rfl, rx⟩ := vals1 r
  cases rx
  have hn := line63
  rcases hq with hq | hq
  · obtain ⟨its, r', pl, hz⟩ := I.list hq
    have hlen := r'.length
    exact Calls.call_len_list pl.isList (by simp only [List.size_toArray] <;> omega) ⟨.int ys.length, H, I.tok _, ⟨s.toks + 1, by rw [List.size_toArray, hlen]⟩, q⟩
  · obtain ⟨its, r', pl, hz⟩ := I.tuple hq
    have hlen := r'.length
    exact len_tuple pl (by simp only [List.size_toArray] <;> omega) ⟨.int ys.length, H, I.tok _, ⟨s.toks + 1, by rw [List.size_toArray, hlen]⟩, q⟩
/-! ### the call of a builtin's method: o.m(..) -/
/-- the value is of that builtin type -/
def tyV (K : PySem.W.Frag) (T : String) (x : V) (H : Hp) : Prop := match x with
  | .str _ => T = "str"
  | .int _ => T = "int"
  | .ref p => (T = "list" ∧ ∃ xs, SqL K H p xs) ∨ (T = "tuple" ∧ ∃ o, K.lookup p = some o ∧ o.cls = .type "tuple" ∧ o.dict = none) ∨
      (T = "dict" ∧ ((∃ kvs, H p = some (.dK kvs)) ∨ ∃ kvs, H p = some (.dT kvs))) ∨ (T = "set" ∧ ∃ S n, H p = some (.set S n))
  | _ => False
theorem tyV_is {pins : List (Addr × Obj)} {σ : St} {H : Hp} {s : Shared} {T : String} {x : V} {v : Value} (I : Inv X pins σ H s) (r : RelV x v) (ty : tyV X.K T x H) :
    s.TypeIs v T ∧ ∀ a, v = .ref a → ∃ ob, s.heap.get? a = some ob ∧ ob.dict = none := by
  cases x with
  | str z =>
    obtain ⟨t, rfl⟩ := r
    cases (show T = "str" from ty)
    exact ⟨typeIs_str s z t, fun _ e => nomatch e⟩
  | int i =>
    obtain ⟨t, rfl⟩ := r
    cases (show T = "int" from ty)
    exact ⟨typeIs_int s i t, fun _ e => nomatch e⟩
  | ref p =>
    cases r
    rcases ty with ⟨rfl, xs, hq⟩ | ⟨rfl, o, hk, hc, hd⟩ | ⟨rfl, hk⟩ | ⟨rfl, S, n, hk⟩
    · obtain ⟨its, _, pl, _⟩ := I.list hq
      refine ⟨pl.isList.typeIs, fun a e => ?_⟩
      cases e
      obtain ⟨o, n, e, c, hd, _⟩ := pl
      exact ⟨o, e, hd⟩
    · refine ⟨⟨o, I.kIn p o hk, hc⟩, fun a e => ?_⟩
      cases e
      exact ⟨o, I.kIn _ o hk, hd⟩
    · have z : ∃ o, s.heap.get? p = some o ∧ o.ExactDict := by
        rcases hk with ⟨kvs, hk⟩ | ⟨kvs, hk⟩
        · obtain ⟨_, _, _, _, o, _, _, e, ex, _⟩ := I.hok p _ hk
          exact ⟨o, e, ex⟩
        · obtain ⟨_, _, _, _, o, _, _, e, ex, _⟩ := I.hok p _ hk
          exact ⟨o, e, ex⟩
      obtain ⟨o, e, ex⟩ := z
      refine ⟨⟨o, e, ex.1⟩, fun a e2 => ?_⟩
      cases e2
      exact ⟨o, e, ex.2.1⟩
    · obtain ⟨o, _, _, _, e, ex, _⟩ := I.hok p _ hk
      refine ⟨⟨o, e, ex.1⟩, fun a e2 => ?_⟩
      cases e2
      exact ⟨o, e, ex.2.1⟩
  | _ => exact False.elim ty
def tBM0 (K : PySem.W.Frag) (T : String) (r : V → List V → Hp → VK → Prop) (to : TE) : TE := fun σ H Q => to σ H fun x H1 => tyV K T x H1 ∧ r x [] H1 Q
def tBM (K : PySem.W.Frag) (T : String) (r : V → List V → Hp → VK → Prop) (to : TE) (t : TA) : TE := fun σ H Q => to σ H fun x H1 => tyV K T x H1 ∧ t σ H1 fun xs H2 => r x xs H2 Q
variable {o e : Expr} {es : List Expr} {to : TE} {t : TA} {name : Str} {apos cpos : Pos} {T id : String} {r : V → List V → Hp → VK → Prop}
theorem pe_bm0 (pa : PlainAttrs T) (slot : Slot T name id) (hty : typeOf (.builtin id) = pure (.type "method_descriptor")) (hm : MtR X id r) (ho : PE X o to)
    (hbase : attributeBase o name X.env (eval o X.env) = eval o X.env := by rfl) (hline : (apos.endLine == cpos.line) = true := by rfl) : PE X (.Call (.Attribute o name apos) [] [] cpos) (tBM0 X.K T r to) := by
  intro pins s σ H Q I h
  refine wpAny_Call_method0_late hbase hline (thn (ho pins s σ H _ I h) fun v s1 ⟨x, H1, I1, r1, ty, q1⟩ => ?_)
  obtain ⟨h1, h2⟩ := tyV_is I1 r1 ty
  exact ⟨T, id, pa, slot, hty, h1, h2, Calls.callWith_builtin rfl (PySem.evalArgs_none (hm pins s1 σ H1 x [] v [] Q I1 r1 .nil q1))⟩
theorem pe_bm (pa : PlainAttrs T) (slot : Slot T name id) (hty : typeOf (.builtin id) = pure (.type "method_descriptor")) (hm : MtR X id r) (ho : PE X o to) (ha : PA X (e :: es) t)
    (hbase : attributeBase o name X.env (eval o X.env) = eval o X.env := by rfl)
    (hfew : ((backTo cpos (starEach (e :: es) X.env)).all (fun x => !x.1) && (backToKw cpos (keywordEach [] X.env)).all (fun x => x.1.isSome)
      && decide ((e :: es).length + ([] : List Keyword).length + (if ([] : List Keyword).isEmpty then 0 else 1) < 30)) = true := by rfl)
    (hline : (apos.endLine == cpos.line) = true := by rfl) (hs : starEach (e :: es) X.env = (false, eval e X.env) :: starEach es X.env := by rfl) (hplain : (backTo cpos (starEach es X.env)).any (·.1) = false := by rfl) :
    PE X (.Call (.Attribute o name apos) (e :: es) [] cpos) (tBM X.K T r to t) := by
  intro pins s σ H Q I h
  refine wpAny_Call_method_late hbase hfew hline rfl (thn (ho pins s σ H _ I h) fun v s1 ⟨x, H1, I1, r1, ty, q1⟩ => ?_)
  obtain ⟨h1, h2⟩ := tyV_is I1 r1 ty
  refine ⟨T, id, pa, slot, hty, h1, h2, ?_⟩
  have hA := ha cpos pins s1 σ H1 _ I1 q1
  rw [hs] at hA ⊢
  refine Calls.callWith_builtin (by show (false || (backTo cpos (starEach es X.env)).any (·.1)) = false; rw [hplain] <;> rfl) (Calls.evalArgs_plain ?_)
  exact thn hA fun us s2 ⟨vs, H2, I2, r2, q2⟩ => hm pins s2 σ H2 x vs v us Q I2 r1 r2 q2
end
end L2

namespace L2
open PySem PySem.Spec PyProof.Rows

def MtM (X : Cx) (id : String) (r : V → List V → Hp → VK → Prop) : Prop :=
  ∀ (pins : List (Addr × Obj)) (s : Shared) (σ : St) (H : Hp) (x : V) (xs : List V) (v : Value) (us : List Value) (Q : VK), Inv X pins σ H s → RelV x v → Vals xs us → r x xs H Q →
    wpAny (model X.prog X.w) X.A (call (.builtin id) (v :: us)) (EP X pins σ Q) X.xe s

/-! ### lists of values -/
theorem Vals.one : ∀ {x : V} {us : List Value}, Vals [x] us → ∃ u, us = [u] ∧ RelV x u
  | _, _, .cons r .nil => ⟨_, rfl, r⟩
theorem Vals.zero : ∀ {us : List Value}, Vals [] us → us = []
  | _, .nil => rfl
theorem Vals.dropLast {xs : List V} {us : List Value} (h : Vals xs us) : Vals xs.dropLast us.dropLast := by
  induction h with
  | nil => exact .nil
  | cons r t ih =>
    cases t with
    | nil => exact .nil
    | cons q t' => exact .cons r ih
theorem erase_last {α : Type} (l : List α) : l.eraseIdx (l.length - 1) = l.dropLast := by
  induction l with
  | nil => rfl
  | cons a r ih =>
    cases r with
    | nil => rfl
    | cons b r =>
      have e : (a :: b :: r).length - 1 = ((b :: r).length - 1) + 1 := by
        have h1 : (a :: b :: r).length = r.length + 2 := rfl
        have h2 : (b :: r).length = r.length + 1 := rfl
        omega
      rw [e, List.eraseIdx_cons_succ, ih]
      all_goals rfl
section
variable {X : Cx} {pins : List (Addr × Obj)} {σ : St} {H : Hp} {s : Shared} {l b : Addr} {xs ys zs : List V}

/-! ### the two steps: a tracked list is rewritten, a new list is laid -/
theorem Inv.lset {its its' : List Value} {n : Nat} {f : Array Value → Array Value} {t' : Nat} (I : Inv X pins σ H s) (hH : H l = some (.lst xs))
    (e : s.heap.get? l = some { cls := .type "list", data := .seq its.toArray n }) (hf : f its.toArray = its'.toArray) (hv : Vals ys its') (hz : ys.length ≤ sizeLine) :
    Inv X pins σ (upd H l (.lst ys)) { s with heap := s.heap.update l (Obj.mapSeq f), toks := t' } := by
  have q := PySem.IsL.update e f
  rw [hf] at q
  refine I.write (x := l) (e := l) (by rw [hH]; exact trivial) (.inl rfl) (fun b' u hb hu => (Heap.get?_update_other s.heap (Obj.mapSeq f) (Ne.symm hb)).trans hu) ⟨_, q⟩ ?_
  exact ⟨hz, its', _, hv, q⟩
theorem Inv.lnew {its : List Value} {t' : Nat} (I : Inv X pins σ H s) (hv : Vals ys its) (hz : ys.length ≤ sizeLine) :
    Inv X pins σ (upd H s.heap.objs.size (.lst ys)) { s with heap := s.heap.push { cls := .type "list", data := .seq its.toArray }, toks := t' } :=
  I.laid (fun _ _ q => Heap.get?_push_of_some _ q) (Nat.le_refl _) ⟨hz, its, 0, hv, Heap.get?_push_size _ rfl⟩
theorem Inv.fresh (I : Inv X pins σ H s) : H s.heap.objs.size = none := I.hok.fresh (Nat.le_refl _)
theorem Inv.lstM (I : Inv X pins σ H s) (hH : H l = some (.lst xs)) : xs.length ≤ sizeLine ∧ ∃ (its : List Value) (n : Nat), Vals xs its ∧ xs.length = its.length ∧ s.heap.get? l = some { cls := .type "list", data := .seq its.toArray n } := by
  obtain ⟨z, its, n, r, e⟩ := I.hok l _ hH
  exact ⟨z, its, n, r, r.length, e⟩

theorem notLongL {n : Nat} (h : n ≤ sizeLine) : Builtin.List.listTooLong n = false := by
  unfold Builtin.List.listTooLong
  exact decide_eq_false (by omega)
end

section
variable {X : Cx}

/-! ### methods -/
def rAppend : V → List V → Hp → VK → Prop := fun x vs H Q => ∃ l xs y, x = .ref l ∧ vs = [y] ∧ H l = some (.lst xs) ∧ xs.length < sizeLine ∧ Q .non (upd H l (.lst (xs ++ [y])))
theorem mt_append : MtM X "list.append" rAppend := by
  intro pins s σ H x vs v us Q I rx rv h
  obtain ⟨l, xs, y, rfl, rfl, hH, hz, q⟩ := h
  cases rx
  obtain ⟨u, rfl, ru⟩ := rv.one
  obtain ⟨z, its, n, r, hl, e⟩ := I.lstM hH
  refine call_meets F.slot_list_append ⟨_, e, rfl⟩ F.entry_list_append (F.args_list_append_2 _ _) (PySem.list_append l its.toArray n u (by rw [List.size_toArray]; omega)) ⟨e, ?_⟩
  refine ⟨.non, _, I.lset (its' := its ++ [u]) hH e (by simp) (r.append (.cons ru .nil)) ?_, rfl, q⟩
  rw [List.length_append, List.length_singleton]
  omega

def rExtend : V → List V → Hp → VK → Prop := fun x vs H Q => ∃ l b xs zs, x = .ref l ∧ vs = [.ref b] ∧ H l = some (.lst xs) ∧ H b = some (.lst zs) ∧ xs.length + zs.length ≤ sizeLine ∧ Q .non (upd H l (.lst (xs ++ zs)))
theorem mt_extend : MtM X "list.extend" rExtend := by
  intro pins s σ H x vs v us Q I rx rv h
  obtain ⟨l, b, xs, zs, rfl, rfl, hH, hB, hz, q⟩ := h
  cases rx
  obtain ⟨u, rfl, ru⟩ := rv.one
  cases ru
  obtain ⟨z, its, n, r, hl, e⟩ := I.lstM hH
  obtain ⟨z2, its2, n2, r2, hl2, e2⟩ := I.lstM hB
  have hsz : its.toArray.size + its2.toArray.size ≤ sizeLine := by rw [List.size_toArray, List.size_toArray]; omega
  have hlong : ¬ (!its.toArray.isEmpty && Builtin.List.listTooLong (its.toArray.size + its2.toArray.size)) = true := by
    rw [notLongL hsz, Bool.and_false]
    exact Bool.false_ne_true
  refine call_meets F.slot_list_extend ⟨_, e, rfl⟩ F.entry_list_extend (F.args_list_extend_2 _ _)
    (AutoSeq1.list_extend_list_list_0 l its.toArray n b its2.toArray n2 hlong (by rw [List.size_toArray]; omega) (by omega)) ⟨e, e2, ?_⟩
  refine ⟨.non, _, I.lset (its' := its ++ its2) hH e (by simp) (r.append r2) ?_, rfl, q⟩
  rw [List.length_append]
  omega

def rPop : V → List V → Hp → VK → Prop := fun x vs H Q => ∃ l xs y, x = .ref l ∧ vs = [] ∧ H l = some (.lst xs) ∧ xs[xs.length - 1]? = some y ∧ Q y (upd H l (.lst xs.dropLast))
theorem mt_pop : MtM X "list.pop" rPop := by
  intro pins s σ H x vs v us Q I rx rv h
  obtain ⟨l, xs, y, rfl, rfl, hH, hy, q⟩ := h
  cases rx
  have hus := rv.zero
  subst hus
  obtain ⟨z, its, n, r, hl, e⟩ := I.lstM hH
  obtain ⟨u, hu, ru⟩ := r.get hy
  have hy' : its.toArray[its.toArray.size - 1]? = some u := by
    show its.toArray[its.length - 1]? = some u
    rw [← Array.getElem?_toList, ← hl]
    exact hu
  refine call_meets F.slot_list_pop ⟨_, e, rfl⟩ F.entry_list_pop (F.args_list_pop_1 _) (MeetsSeq.list_pop_last l its.toArray n u hy' (by rw [List.size_toArray]; omega)) ⟨e, ?_⟩
  refine ⟨y, _, I.lset (its' := its.dropLast) hH e ?_ r.dropLast ?_, ru, q⟩
  · show its.toArray.eraseIdxIfInBounds (its.toArray.size - 1) = its.dropLast.toArray
    rw [List.size_toArray, List.eraseIdxIfInBounds_toArray, erase_last]
  · rw [List.length_dropLast]
    omega

/-! ### list + list, list += list, list * int -/
def rCat : R2 := fun x y H Q => ∃ l b xs zs, x = .ref l ∧ y = .ref b ∧ H l = some (.lst xs) ∧ H b = some (.lst zs) ∧ xs.length + zs.length ≤ sizeLine ∧ ∀ p, H p = none → Q (.ref p) (upd H p (.lst (xs ++ zs)))
theorem op_cat : OpR X (binaryOp .Add) rCat := by
  intro pins s σ H x y v u Q I rx ry h
  obtain ⟨l, b, xs, zs, rfl, rfl, hH, hB, hz, q⟩ := h
  cases rx
  cases ry
  obtain ⟨z, its, n, r, hl, e⟩ := I.lstM hH
  obtain ⟨z2, its2, n2, r2, hl2, e2⟩ := I.lstM hB
  refine PySem.P.add_list e e2 ?_ (by rw [List.size_toArray, List.size_toArray]; omega)
  have ea : its.toArray ++ its2.toArray = (its ++ its2).toArray := by simp
  rw [ea]
  exact ⟨.ref _, _, I.lnew (t' := s.toks) (r.append r2) (by rw [List.length_append]; omega), rfl, q _ I.fresh⟩
/-! ### del xs[i] -/
end

/-! ### xs[a:b] = ys -/
section
variable {prog : Program} {w : World} {A : Around} {E : Value → Shared → Prop} {s : Shared}
set_option maxRecDepth 100000 in
end

section
variable {X : Cx}
end
end L2

namespace L2
open PySem PySem.Spec PyProof.Rows

theorem Vals.ints : ∀ {ns : List Int} {us : List Value}, Vals (ns.map V.int) us → IntsAre us ns
  | [], us, h => by
    rw [List.map_nil] at h
    cases h
    exact IntsAre.nil
  | n :: ns, us, h => by
    rw [List.map_cons] at h
    cases h with
    | cons r t =>
      obtain ⟨k, rfl⟩ := r
      exact IntsAre.cons n k (Vals.ints t)
theorem Vals.ref1 {a : Addr} {us : List Value} (r : Vals [V.ref a] us) : us = [Value.ref a] := by
  cases r with
  | cons r t =>
    cases t
    cases r
    rfl
/-! ### the library's walks over a list of ints, kept objects alone -/
section
variable {prog : Program} {w : World} {A : Around} {E : Value → Shared → Prop} {s : Shared} {l : Addr} {its : List Value} {ns : List Int} {Q : Value → Shared → Prop}
theorem sum_raw (hh : A.handled = none) (hl : s.heap.IsList l its.toArray) (hi : IntsAre its ns)
    (h : ∀ h' tk t', (∀ b o, s.heap.get? b = some o → h'.get? b = some o) → Q (.int ns.sum t') { s with heap := h', toks := tk }) : wpAny (model prog w) A (call (.builtin "sum") [.ref l]) Q E s := by
  obtain ⟨xs, e⟩ := hi.allInts.items
  have hn : numsOf (intItems xs).toList = ns := by rw [← e]; exact hi.numsOf
  rw [nums_intItems] at hn
  rw [e] at hl
  refine PySem.sum_intListG hh hl fun h' tk t' hk => ?_
  have := h h' tk t' hk
  rw [preSum_eq, List.take_of_length_le (by simp), hn]; exact this
end

/-! ### the calls, by values (CallR of 03t; MtR of 06l) -/
section
variable {X : Cx}
/-- sum(xs) of a list of ints -/
def rSum (K : PySem.W.Frag) : List V → Hp → VK → Prop := fun vs H Q => ∃ (a : Addr) (ns : List Int), vs = [V.ref a] ∧ SqL K H a (ns.map V.int) ∧ Q (.int ns.sum) H
theorem cr_sum (hc : X.calm = true) : CallR X (.builtin "sum") (rSum X.K) := by
  intro pins s σ H vs us Q I r h
  obtain ⟨a, ns, rfl, hs, q⟩ := h
  obtain ⟨its, rv, hl, _⟩ := I.list hs
  rw [Vals.ref1 r]
  exact sum_raw (I.ok.hd hc) hl.isList rv.ints fun h' tk t' hk => ⟨.int _, H, I.kept hk, ⟨_, rfl⟩, q⟩
/-! sorted, sort (fewer than 64 items: the library's own bound) -/
end

/-! ### list.index, flat items -/
section
variable {X : Cx}
end

/-! ### type(x) of an own instance; is, is not of a module's class -/
section
variable {X : Cx}
end

/-! ### any(xs), all(xs) of a list of bools -/
section
variable {X : Cx}
end

/-! ### == and != of data at any depth: none, bools, ints, texts, lists, tuples -/
section
variable {X : Cx} {pins : List (Addr × Obj)} {σ : St} {H : Hp} {s : Shared}
end
section
variable {X : Cx}
end
end L2

namespace L2
open PySem PySem.Spec PyProof.Rows
abbrev CellAt (h : Heap) (c : Addr) (v : Option Value) : Prop := h.IsCell c v
def relS (scope sc : Scope) : Scope :=
  { scope with names := scope.names.map fun (n, k) => if (k == .free && sc.kind == .function && sc.names.lookup n == some .cell) then (n, .cell) else (n, k) }

def cloFrom (cells : List (Str × Addr)) : List (Str × NameKind) → List (Str × Addr) → List (Str × Addr)
  | [], acc => acc
  | (n, k) :: r, acc => if k == .free then cloFrom cells r ((n, (cells.lookup n).getD 0) :: acc) else cloFrom cells r acc

theorem closure_loop (env : Env) (f : Str × NameKind → List (Str × Addr) → Sem (ForInStep (List (Str × Addr))))
    (hf : ∀ n k c, f (n, k) c = if k == .free then (do let a ← cellOf env n; pure (.yield ((n, a) :: c))) else pure (.yield c)) :
    ∀ (names : List (Str × NameKind)) (acc : List (Str × Addr)), (∀ y ∈ names, y.2 = .free → ∃ c, env.cells.lookup y.1 = some c) → forIn names acc f = pure (cloFrom env.cells names acc)
  | [], acc, _ => by rw [List.forIn_nil]; rfl
  | (n, k) :: r, acc, h => by
    rw [List.forIn_cons, hf]
    have ih := fun acc => closure_loop env f hf r acc fun y hy => h y (List.mem_cons_of_mem _ hy)
    unfold cloFrom
    by_cases hk : (k == NameKind.free) = true
    · rw [if_pos hk, if_pos hk]
      obtain ⟨c, hc⟩ := h (n, k) List.mem_cons_self (by simpa using hk)
      have e : cellOf env n = pure c := by unfold cellOf; rw [hc]
      rw [e]
      have e2 : (env.cells.lookup n).getD 0 = c := by rw [hc]; rfl
      rw [e2]
      exact ih _
    · rw [if_neg hk, if_neg hk]
      exact ih _
theorem closure_ok {scope : Scope} {env : Env} (h : ∀ y ∈ scope.names, y.2 = .free → ∃ c, env.cells.lookup y.1 = some c) : closureFor scope env = pure (cloFrom env.cells scope.names []) := by
  simp only [closureFor]
  rw [closure_loop env _ (fun n k c => rfl) scope.names [] h]
  rfl

theorem mem_lookup {α : Type} : ∀ {l : List (Str × α)} {n : Str} {c : α}, (n, c) ∈ l → ∃ c', l.lookup n = some c'
  | (k, v) :: r, n, c, h => by
    rw [List.lookup_cons]
    cases hb : n == k with
    | true => exact ⟨_, rfl⟩
    | false =>
      rcases List.mem_cons.mp h with e | h
      · cases e; simp at hb
      · exact mem_lookup h

theorem cloFrom_mem {cells : List (Str × Addr)} : ∀ {names : List (Str × NameKind)} {acc : List (Str × Addr)} {n : Str} {c : Addr}, (n, c) ∈ cloFrom cells names acc → (n, c) ∈ acc ∨ ((n, .free) ∈ names ∧ c = (cells.lookup n).getD 0)
  | [], _, _, _, h => .inl h
  | (m, k) :: r, acc, n, c, h => by
    unfold cloFrom at h
    split at h
    · rename_i hk
      have hk : k = .free := by simpa using hk
      rcases cloFrom_mem h with h | ⟨h1, h2⟩
      · rcases List.mem_cons.mp h with e | h
        · cases e; exact .inr ⟨hk ▸ List.mem_cons_self, rfl⟩
        · exact .inl h
      · exact .inr ⟨List.mem_cons_of_mem _ h1, h2⟩
    · rcases cloFrom_mem h with h | ⟨h1, h2⟩
      · exact .inl h
      · exact .inr ⟨List.mem_cons_of_mem _ h1, h2⟩
theorem cloFrom_acc {cells : List (Str × Addr)} : ∀ {names : List (Str × NameKind)} {acc : List (Str × Addr)} {p : Str × Addr}, p ∈ acc → p ∈ cloFrom cells names acc
  | [], _, _, h => h
  | (m, k) :: r, acc, p, h => by
    unfold cloFrom
    split
    · exact cloFrom_acc (List.mem_cons_of_mem _ h)
    · exact cloFrom_acc h
theorem cloFrom_has {cells : List (Str × Addr)} : ∀ {names : List (Str × NameKind)} {acc : List (Str × Addr)} {n : Str}, (n, .free) ∈ names → (n, (cells.lookup n).getD 0) ∈ cloFrom cells names acc
  | (m, k) :: r, acc, n, h => by
    unfold cloFrom
    rcases List.mem_cons.mp h with e | h
    · cases e
      exact cloFrom_acc List.mem_cons_self
    · split
      · exact cloFrom_has h
      · exact cloFrom_has h

theorem cells_mem : ∀ {names : List (Str × NameKind)} {h : Heap} {acc : List (Str × Addr)} {x : Str} {c : Addr}, (x, c) ∈ cellsFrom h.objs.size names acc →
    (x, c) ∈ acc ∨ ((x, .cell) ∈ names ∧ h.objs.size ≤ c ∧ CellAt (pushCells h names) c none)
  | [], _, _, _, _, h => .inl h
  | (n, k) :: r, h, acc, x, c, hm => by
    unfold cellsFrom at hm
    unfold pushCells
    split at hm
    · rename_i hk
      rw [if_pos hk]
      have hk : k = .cell := by simpa using hk
      rw [← Heap.size_push h { cls := .type "cell", data := .cell none }] at hm
      rcases cells_mem hm with hm | ⟨h1, h2, h3⟩
      · rcases List.mem_cons.mp hm with e | hm
        · cases e
          exact .inr ⟨hk ▸ List.mem_cons_self, Nat.le_refl _, _, pushCells_keeps r _ _ _ (Heap.get?_push_size _ rfl), rfl⟩
        · exact .inl hm
      · rw [Heap.size_push] at h2
        exact .inr ⟨List.mem_cons_of_mem _ h1, Nat.le_of_succ_le h2, h3⟩
    · rename_i hk
      rw [if_neg hk]
      rcases cells_mem hm with hm | ⟨h1, h2, h3⟩
      · exact .inl hm
      · exact .inr ⟨List.mem_cons_of_mem _ h1, h2, h3⟩
theorem cells_acc : ∀ {names : List (Str × NameKind)} {n : Nat} {acc : List (Str × Addr)} {p : Str × Addr}, p ∈ acc → p ∈ cellsFrom n names acc
  | [], _, _, _, h => h
  | (m, k) :: r, n, acc, p, h => by
    unfold cellsFrom
    split
    · exact cells_acc (List.mem_cons_of_mem _ h)
    · exact cells_acc h
theorem cells_has : ∀ {names : List (Str × NameKind)} {n : Nat} {acc : List (Str × Addr)} {x : Str}, (x, .cell) ∈ names → ∃ c, (x, c) ∈ cellsFrom n names acc
  | (m, k) :: r, n, acc, x, h => by
    unfold cellsFrom
    rcases List.mem_cons.mp h with e | h
    · cases e
      exact ⟨n, cells_acc List.mem_cons_self⟩
    · split
      · exact cells_has h
      · exact cells_has h
theorem cells_inj : ∀ {names : List (Str × NameKind)} {h : Heap} {acc : List (Str × Addr)} {x y : Str} {c : Addr}, (∀ p ∈ acc, p.2 < h.objs.size) → (∀ x y c, (x, c) ∈ acc → (y, c) ∈ acc → x = y) →
    (x, c) ∈ cellsFrom h.objs.size names acc → (y, c) ∈ cellsFrom h.objs.size names acc → x = y
  | [], _, _, _, _, _, _, hi, h1, h2 => hi _ _ _ h1 h2
  | (n, k) :: r, h, acc, x, y, c, hl, hi, h1, h2 => by
    unfold cellsFrom at h1 h2
    split at h1
    · rename_i hk
      rw [if_pos hk] at h2
      rw [← Heap.size_push h { cls := .type "cell", data := .cell none }] at h1 h2
      refine cells_inj (h := h.push _) (fun p hp => ?_) (fun x y c a b => ?_) h1 h2
      · rw [Heap.size_push]
        rcases List.mem_cons.mp hp with rfl | hp
        · exact Nat.lt_succ_self _
        · exact Nat.lt_succ_of_lt (hl p hp)
      · rcases List.mem_cons.mp a with e | a <;> rcases List.mem_cons.mp b with e' | b
        · cases e; cases e'; rfl
        · cases e; exact absurd (hl _ b) (Nat.lt_irrefl _)
        · cases e'; exact absurd (hl _ a) (Nat.lt_irrefl _)
        · exact hi _ _ _ a b
    · rename_i hk
      rw [if_neg hk] at h2
      exact cells_inj hl hi h1 h2

theorem newEnv_comp {M : Model} {A : Around} {E : Value → Shared → Prop} {s : Shared} {scope : Scope} {globals : Addr} {closure : List (Str × Addr)} {qual : Str} {func : Option Addr} {code : Value} {around : Env} {builtins : Addr} {Q : Env → Shared → Prop}
    (h : Q (newEnv scope s.heap.objs.size globals (cellsFrom (s.heap.objs.size + 1) scope.names closure) qual func code (some around) builtins)
      { s with heap := pushCells (s.heap.push { cls := .type "dict", data := .dict #[] }) scope.names }) :
    wpAny M A (newFunctionEnv scope globals closure [] qual func code (some around) builtins) Q E s := by
  simp only [newFunctionEnv, Option.isSome_some, if_true]
  refine wpAny_bind (wpAny_alloc ?_)
  refine wpAny_bind (wpAny_layCells _ (fun n k c => rfl) scope.names closure _ _ ?_)
  rw [show ({ s with heap := s.heap.push { cls := .type "dict", data := .dict #[] } } : Shared).heap.objs.size = s.heap.objs.size + 1 from Heap.size_push ..]
  rw [List.forIn_nil]
  exact wpAny_bind (wpAny_pure (wpAny_pure h))

/-- every name of the written scope, in the scope that runs -/
theorem lookup_relS {sc : Scope} : ∀ {names : List (Str × NameKind)} {x : Str} {k : NameKind},
    (names.map fun (n, k) => if (k == NameKind.free && sc.kind == .function && sc.names.lookup n == some .cell) then (n, NameKind.cell) else (n, k)).lookup x = some k →
    ∃ k', names.lookup x = some k' ∧ (k = k' ∨ (k' = .free ∧ k = .cell))
  | [], _, _, h => by simp at h
  | (n, k₀) :: r, x, k, h => by
    have ih := @lookup_relS sc r x k
    have h' : List.lookup x ((if (k₀ == NameKind.free && sc.kind == .function && sc.names.lookup n == some .cell) = true then (n, NameKind.cell) else (n, k₀)) :: (r.map _)) = some k := h
    cases hx : x == n with
    | true =>
      simp only [List.lookup_cons, hx]
      by_cases hc : (k₀ == NameKind.free && sc.kind == .function && sc.names.lookup n == some .cell) = true
      · rw [if_pos hc] at h'
        simp only [List.lookup_cons, hx] at h'
        cases h'
        simp only [Bool.and_eq_true, beq_iff_eq] at hc
        exact ⟨k₀, rfl, .inr ⟨hc.1.1, rfl⟩⟩
      · rw [if_neg hc] at h'
        simp only [List.lookup_cons, hx] at h'
        cases h'
        exact ⟨_, rfl, .inl rfl⟩
    | false =>
      simp only [List.lookup_cons, hx]
      by_cases hc : (k₀ == NameKind.free && sc.kind == .function && sc.names.lookup n == some .cell) = true
      · rw [if_pos hc] at h'
        simp only [List.lookup_cons, hx] at h'
        exact ih h'
      · rw [if_neg hc] at h'
        simp only [List.lookup_cons, hx] at h'
        exact ih h'
/-- the names of a comprehension's block: its own (with their places in N), or captured -/
structure BlkOk (N : List Str) (sc scope : Scope) (own : List (Str × Nat)) : Prop where
  kind : scope.kind = .function
  uniq : ∀ y ∈ scope.names, scope.names.lookup y.1 = some y.2
  ix : ∀ p ∈ own, N[p.2]? = some p.1
  free : ∀ y ∈ scope.names, y.2 = .free → sc.names.lookup y.1 = some .cell ∨ sc.names.lookup y.1 = some .free
  own : ∀ y ∈ scope.names, y.2 = .local ∨ y.2 = .cell → y.1 ∈ own.map (·.1) ∨ y.1 ∉ N
/-- the slots of the block's own names forgotten -/
def wipe (σ : St) : List Nat → St
  | [] => σ
  | v :: vs => (wipe σ vs).set v none
theorem wipe_length (σ : St) : ∀ vs : List Nat, (wipe σ vs).length = σ.length
  | [] => rfl
  | v :: vs => by unfold wipe; rw [List.length_set, wipe_length σ vs]
theorem wipe_some {σ : St} {i : Nat} {x : V} : ∀ {vs : List Nat}, (wipe σ vs)[i]? = some (some x) → σ[i]? = some (some x) ∧ i ∉ vs
  | [], h => ⟨h, by simp⟩
  | v :: vs, h => by
    unfold wipe at h
    by_cases hi : v = i
    · subst hi
      by_cases hv : v < (wipe σ vs).length
      · rw [List.getElem?_set_self hv] at h; cases h
      · rw [List.getElem?_eq_none (by simpa using hv)] at h; cases h
    · rw [List.getElem?_set_ne hi] at h
      obtain ⟨h1, h2⟩ := wipe_some h
      exact ⟨h1, by simp only [List.mem_cons, not_or]; exact ⟨fun e => hi e.symm, h2⟩⟩

/-- the context of a block that starts at s, its iterator's objects at fp -/
abbrev Cx.blk (X : Cx) (s : Shared) (H : Hp) (scope : Scope) (cenv : Env) (fp : List Addr) : Cx := { X with s_0 := s, H_0 := H, env := cenv, outer := X.stack, ex := fp, fn := fun x => scope.names.lookup x == some .cell, pn := [], xe := fun _ _ => False }
section
variable {X : Cx} {pins : List (Addr × Obj)} {σ : St} {H : Hp} {s : Shared}
theorem block_start {scope : Scope} {own : List (Str × Nat)} {fp : List Addr} (I : Inv X pins σ H s) (ok : BlkOk X.N X.env.scope scope own) (hN : X.N.Nodup) (hfp : ∀ b ∈ fp, FpOk X pins H b ∧ b < s.heap.objs.size) :
    Inv (X.blk s H scope (compEnvC scope (cellsFrom (s.heap.objs.size + 1) scope.names (cloFrom X.env.cells scope.names [])) s.heap.objs.size X.env) fp) [] (wipe σ (own.map (·.2))) H { s with heap := pushCells (s.heap.push { cls := .type "dict", data := .dict #[] }) scope.names } := by
  have hfree : ∀ y ∈ scope.names, y.2 = .free → ∃ c, X.env.cells.lookup y.1 = some c := fun y hy e => by
    rcases ok.free y hy e with k | k
    · exact I.ok.has _ (.inl k)
    · exact I.ok.has _ (.inr k)
  generalize hcenv : compEnvC scope (cellsFrom (s.heap.objs.size + 1) scope.names (cloFrom X.env.cells scope.names [])) s.heap.objs.size X.env = cenv
  have kp : ∀ b o, s.heap.get? b = some o → (pushCells (s.heap.push { cls := .type "dict", data := .dict #[] }) scope.names).get? b = some o := fun b o e => pushCells_keeps _ _ _ _ (Heap.get?_push_of_some _ e)
  have hL : cenv.locals = s.heap.objs.size := by rw [← hcenv]; rfl
  have hcl : cenv.cells = cellsFrom (s.heap.objs.size + 1) scope.names (cloFrom X.env.cells scope.names []) := by rw [← hcenv]; rfl
  have hsc : cenv.scope = relS scope X.env.scope := by rw [← hcenv]; rfl
  rw [← Heap.size_push s.heap { cls := .type "dict", data := .dict #[] }] at hcl
  have cm : ∀ {y c}, (y, c) ∈ cloFrom X.env.cells scope.names [] → X.env.cells.lookup y = some c ∧ c < s.heap.objs.size := fun {y c} hm => by
    rcases cloFrom_mem hm with hm | ⟨h1, rfl⟩
    · cases hm
    · obtain ⟨c, hc⟩ := hfree _ h1 rfl
      rw [hc]
      obtain ⟨w, z⟩ := I.cell _ _ hc
      exact ⟨rfl, z.lt⟩
  have mem : ∀ {y c}, cenv.cells.lookup y = some c → (X.env.cells.lookup y = some c ∧ c < s.heap.objs.size) ∨ (s.heap.objs.size + 1 ≤ c ∧ CellAt (pushCells (s.heap.push { cls := .type "dict", data := .dict #[] }) scope.names) c none) := fun {y c} e => by
    rw [hcl] at e
    rcases cells_mem (PySem.mem_of_lookup e) with hm | ⟨_, h2, h3⟩
    · exact .inl (cm hm)
    · rw [Heap.size_push] at h2; exact .inr ⟨h2, h3⟩
  have look : ∀ {y}, scope.names.lookup y = some .free → ∃ c, cenv.cells.lookup y = some c ∧ X.env.cells.lookup y = some c := fun {y} hl => by
    have hy : (y, NameKind.free) ∈ scope.names := PySem.mem_of_lookup hl
    obtain ⟨c', e'⟩ := mem_lookup (cells_acc (names := scope.names) (n := (s.heap.push { cls := .type "dict", data := .dict #[] }).objs.size) (cloFrom_has (cells := X.env.cells) (acc := []) hy))
    rw [← hcl] at e'
    refine ⟨c', e', ?_⟩
    rw [hcl] at e'
    rcases cells_mem (PySem.mem_of_lookup e') with hm | ⟨h1, _, _⟩
    · exact (cm hm).1
    · have := ok.uniq _ h1
      rw [hl] at this; cases this
  have okB : (X.blk s H scope cenv fp).Ok := by
    refine ⟨I.ok.mod, by show cenv.scope.kind = _; rw [hsc]; exact ok.kind, by show cenv.globals = _; rw [← hcenv]; exact I.ok.glob, by show cenv.builtins = _; rw [← hcenv]; exact I.ok.blt, by show s.heap.objs.size ≤ cenv.locals; rw [hL]; exact Nat.le_refl _,
      fun y z c e1 e2 => ?_, fun y hy => ?_, fun y c z e => ?_, I.ok.hd, I.ok.frames, .inl rfl, fun b hb => ⟨?_, fun y c e z => ?_⟩, I.bs, Nat.le_trans I.ok.bsz I.sz, fun b o e hb => ?_, fun b hb z => ?_, I.stack, I.stkFree⟩
    · have e1 : cenv.cells.lookup y = some c := e1
      have e2 : cenv.cells.lookup z = some c := e2
      rw [hcl] at e1 e2
      refine cells_inj (fun p hp => ?_) (fun y z c a b => I.ok.inj y z c (cm a).1 (cm b).1) (PySem.mem_of_lookup e1) (PySem.mem_of_lookup e2)
      rw [Heap.size_push]
      exact Nat.lt_succ_of_lt (cm (y := p.1) (c := p.2) hp).2
    · show ∃ c, cenv.cells.lookup y = some c
      have key : ∀ k, cenv.kindOf y = some k → (k = .cell ∨ k = .free) → ∃ c, cenv.cells.lookup y = some c := fun k hk hk' => by
        unfold Env.kindOf at hk
        rw [hsc] at hk
        obtain ⟨k', e, r⟩ := lookup_relS hk
        have : k' = .cell ∨ k' = .free := by
          rcases r with rfl | ⟨rfl, _⟩
          · exact hk'
          · exact .inr rfl
        rcases this with rfl | rfl
        · obtain ⟨c, hm⟩ := cells_has (n := (s.heap.push { cls := .type "dict", data := .dict #[] }).objs.size) (acc := cloFrom X.env.cells scope.names []) (PySem.mem_of_lookup e)
          obtain ⟨c', e'⟩ := mem_lookup hm
          exact ⟨c', by rw [hcl]; exact e'⟩
        · obtain ⟨c, h1, _⟩ := look e
          exact ⟨c, h1⟩
      rcases hy with hy | hy
      · exact key _ hy (.inl rfl)
      · exact key _ hy (.inr rfl)
    · have z : (scope.names.lookup y == some NameKind.cell) = true := z
      have z : scope.names.lookup y = some .cell := by simpa using z
      have e : cenv.cells.lookup y = some c := e
      rw [hcl] at e
      rcases cells_mem (PySem.mem_of_lookup e) with hm | ⟨_, h2, _⟩
      · rcases cloFrom_mem hm with hm | ⟨h1, _⟩
        · cases hm
        · have q := ok.uniq _ h1
          rw [z] at q; cases q
      · rw [Heap.size_push] at h2
        exact Nat.le_of_succ_le h2
    · show b ≠ cenv.locals
      rw [hL]; exact Nat.ne_of_lt (hfp b hb).2
    · have e : cenv.cells.lookup y = some c := e
      rcases mem e with ⟨h1, _⟩ | ⟨h1, _⟩
      · exact (hfp b hb).1.2.2.2.2.1 y c h1 z
      · have h2 : s.heap.objs.size + 1 ≤ b := by rw [← z]; exact h1
        exact absurd (Nat.lt_of_lt_of_le (hfp b hb).2 (Nat.le_of_succ_le h2)) (Nat.lt_irrefl _)
    · rcases (hfp b hb).1.2.2.2.1 with z | z
      · exact I.ok.noex b o e z
      · exact absurd (Nat.lt_of_lt_of_le (Heap.lt_size e) (Nat.le_trans I.ok.bsz z)) (Nat.lt_irrefl _)
    · rcases List.mem_cons.mp (I.stkSub b z) with z | z
      · exact (hfp b hb).1.2.1 z
      · exact (hfp b hb).1.2.2.1 z
  refine ⟨okB, rfl, I.bare, Un.kept kp, ⟨fun _ => none, ?_, fun i y av e1 e2 e3 => ?_⟩, fun y c e => ?_, ?_, fun y c e => ?_, fun p hp => ?_, I.hok.kept kp, by rw [wipe_length]; exact I.len⟩
  · show Heap.Ns _ cenv.locals _
    rw [hL]
    exact Heap.Ns.keeps (Heap.Ns.new ..) fun b o e => pushCells_keeps _ _ _ _ e
  · obtain ⟨e2, hne⟩ := wipe_some e2
    have hfr : scope.names.lookup y = some .free ∧ (cenv.kindOf y = some .cell ∨ cenv.kindOf y = some .free) := by
      have key : ∀ k, cenv.scope.names.lookup y = some k → k = .local ∨ k = .cell ∨ k = .free → scope.names.lookup y = some .free ∧ (cenv.kindOf y = some .cell ∨ cenv.kindOf y = some .free) := fun k hk hk' => by
        have hk0 := hk
        rw [hsc] at hk
        obtain ⟨k', e, r⟩ := lookup_relS hk
        have no : ¬ (k' = .local ∨ k' = .cell) := fun hh => by
          rcases ok.own _ (PySem.mem_of_lookup e) hh with e' | e'
          · obtain ⟨p, hp, hpy⟩ := List.mem_map.mp e'
            have e3 := ok.ix p hp
            have : p.1 = y := hpy
            rw [this] at e3
            exact hne (List.mem_map.mpr ⟨p, hp, nodup_ix hN e3 e1⟩)
          · exact e' (List.mem_of_getElem? e1)
        rcases r with rfl | ⟨rfl, rfl⟩
        · rcases hk' with rfl | rfl | rfl
          · exact absurd (.inl rfl) no
          · exact absurd (.inr rfl) no
          · exact ⟨e, .inr hk0⟩
        · exact ⟨e, .inl hk0⟩
      have e3 : Vis cenv.scope y := e3
      rcases e3 with e3 | e3 | e3
      · exact key _ e3 (.inl rfl)
      · exact key _ e3 (.inr (.inl rfl))
      · exact key _ e3 (.inr (.inr rfl))
    obtain ⟨m, hn, hl⟩ := I.loc
    have hvis : Vis X.env.scope y := (ok.free _ (PySem.mem_of_lookup hfr.1) rfl).elim (fun k => .inr (.inl k)) (fun k => .inr (.inr k))
    obtain ⟨w, r, q⟩ := hl i y av e1 e2 hvis
    refine ⟨w, r, .inr ⟨hfr.2, ?_⟩⟩
    obtain ⟨c, h1, h2⟩ := look hfr.1
    rcases q with ⟨k, _⟩ | ⟨_, c', e', z⟩
    · have k : X.env.scope.names.lookup y = some .local := k
      rcases ok.free _ (PySem.mem_of_lookup hfr.1) rfl with k' | k' <;> rw [show X.env.scope.names.lookup y = _ from k'] at k <;> cases k
    · rw [h2] at e'; cases e'
      exact ⟨c, h1, z.keeps kp⟩
  · have e : cenv.cells.lookup y = some c := e
    rcases mem e with ⟨h1, _⟩ | ⟨_, z⟩
    · obtain ⟨w, z⟩ := I.cell y c h1
      exact ⟨w, z.keeps kp⟩
    · exact ⟨_, z⟩
  · show H cenv.locals = none
    rw [hL]; exact I.hok.fresh (Nat.le_refl _)
  · have e : cenv.cells.lookup y = some c := e
    rcases mem e with ⟨h1, _⟩ | ⟨h1, _⟩
    · exact I.freeC y c h1
    · exact I.hok.fresh (Nat.le_of_succ_le h1)
  · exact absurd (show p ∈ ([] : List (Addr × Obj)) ++ [] from hp) (by simp)

/-- an item appended to a tracked list -/
theorem app_ok {E : Value → Shared → Prop} {D : Addr} {xs : List V} {y : V} {v : Value} {Q : Value → Shared → Prop} (I : Inv X pins σ H s) (hD : H D = some (.lst xs)) (hz : xs.length < sizeLine) (r : RelV y v)
    (h : ∀ s', Inv X pins σ (upd H D (.lst (xs ++ [y]))) s' → Q .none s') : wpAny (model X.prog X.w) X.A (call (.builtin "list.append") [.ref D, v]) Q E s := by
  obtain ⟨hz', its, n, ri, e⟩ := I.hok D _ hD
  have hl := ri.length
  refine append_at (hsz := by rw [List.size_toArray]; omega) e fun h' sb ho' => ?_
  refine h { s with heap := h' } (I.write (t' := s.toks) (by rw [hD]; trivial) (.inl rfl) (fun b u hb q => (sb.2 b hb).trans q) ⟨_, ho'⟩ ⟨by rw [List.length_append]; exact hz, its ++ [v], n + 1, ri.append (.cons r .nil), ?_⟩)
  rw [ho']
  simp

/-- a clause's tests -/
def PTs (X : Cx) (ifs : List Expr) (t : TT) : Prop :=
  ∀ (pins : List (Addr × Obj)) (s : Shared) (σ : St) (H : Hp) (Q : Bool → Hp → Prop), Inv X pins σ H s → t σ H Q →
    wpAny (model X.prog X.w) X.A (forIn ifs true fun c r => if r = true then do let ok ← isTrue c X.env (eval c X.env); pure (ForInStep.yield ok) else pure (ForInStep.yield r)) (TP X pins σ Q) X.xe s
def tYes : TT := fun _ H Q => Q true H
theorem pts_nil : PTs X [] tYes := fun _ _ _ H _ I h => wpAny_tests_nil ⟨H, I, h⟩
theorem pts_one {c : Expr} {t : TT} (h : PT X c t) : PTs X [c] t := fun pins s σ H Q I hw => wpAny_tests_one (h pins s σ H Q I hw)
end

theorem thnF {α : Type} {t : Sem α} {Q Q' : α → Shared → Prop} {M : Model} {A : Around} {E : Value → Shared → Prop} {s : Shared} (h : wpAny M A t Q (fun _ _ => False) s) (hQ : ∀ a s, Q a s → Q' a s) : wpAny M A t Q' E s := wpAny_mono h hQ fun _ _ z => False.elim z

/-- the loop of a list comprehension's block, the target of any form (codeAny_compLoop_tests asks a target that no tuple goes to; statement and proof follow it, PyProof/CompMap.lean:41-61, with the step letOwnedTupleGo kept) -/
theorem compLoop_any {prog : Program} {w : World} {A : Around} {R : Result → Shared → Prop} {s : Shared} {elt target iter : Expr} {ifs : List Expr} {scope : Scope} {pos : Pos} {it acc : Value} {env : Env} (I : Nat → Shared → Prop)
    (turn : ∀ n s, I n s → wpAny (model prog w) A (pyNext it) (fun r s₁ => match r with
      | none => R (.ok .next) s₁
      | some v => wpAny (model prog w) A (letOwnedTupleGo target it v) (fun _ s₁' => wpAny (model prog w) A (assign target env v) (fun _ s₂ =>
          wpAny (model prog w) A (forIn ifs true fun c r => if r = true then do let ok ← isTrue c env (eval c env); pure (ForInStep.yield ok) else pure (ForInStep.yield r)) (fun ok s₃ =>
            if ok = true then wpAny (model prog w) A (eval elt env) (fun x s₄ =>
              wpAny (model prog w) A (call (.builtin "list.append") [acc, x]) (fun _ s₅ => ∃ m, m < n ∧ I m s₅) (notedBy (model prog w) A env fun e s' => R (.error e) s') s₄) (notedBy (model prog w) A env fun e s' => R (.error e) s') s₃
            else ∃ m, m < n ∧ I m s₃) (notedBy (model prog w) A env fun e s' => R (.error e) s') s₂) (notedBy (model prog w) A env fun e s' => R (.error e) s') s₁') (notedBy (model prog w) A env fun e s' => R (.error e) s') s₁) (notedBy (model prog w) A env fun e s' => R (.error e) s') s)
    (n : Nat) (h : I n s) :
    codeAny (model prog w) A (.compLoop (.ListComp elt [⟨target, iter, ifs, 0⟩] scope pos) 0 it acc env) R s := by
  refine codeAny_loop rfl I (fun n s hI => ?_) n h
  show wpAny _ A ((compTurn (.ListComp elt [⟨target, iter, ifs, 0⟩] scope pos) 0 it acc env).onRaise (fun x => do noteFrame x env; theTreesLotGoes x)) _ _ s
  refine wpAny_noted ?_
  rw [compTurn_list]
  refine wpAny_bind (wpAny_standAt (wpAny_bind (wpAny_mono (turn n s hI) (fun r s₁ h₁ => ?_) fun _ _ h' => h')))
  cases r with
  | none => exact wpAny_pure h₁
  | some v =>
    refine wpAny_bind (wpAny_mono h₁ (fun _ s₁' h₁' => ?_) fun _ _ h' => h')
    refine wpAny_bind (wpAny_mono h₁' (fun _ s₂ h₂ => wpAny_bind (wpAny_mono h₂ (fun ok s₃ h₃ => ?_) fun _ _ h' => h')) fun _ _ h' => h')
    cases ok with
    | false => exact wpAny_pure ⟨rfl, h₃⟩
    | true =>
      exact wpAny_bind (wpAny_bind (wpAny_mono h₃ (fun x s₄ h₄ => wpAny_bind (wpAny_mono h₄ (fun _ s₅ h₅ => wpAny_pure (wpAny_pure ⟨rfl, h₅⟩)) fun _ _ h' => h')) fun _ _ h' => h'))

section
variable {X : Cx}
/-- [elt for target in iter if ..]: D the new list; W by the turn and a measure, Nx what a turn is to reach -/
def tLc (wi : TI) (g : TG) (tt : TT) (te : TE) (vs : List Nat) : TE := fun σ H Q => wi σ H fun J H1 => ∀ D, H1 D = none → ∃ W : Nat → Nat → Hp → Prop, (∃ m, W 0 m (upd H1 D (.lst []))) ∧ ∀ i m H, W i m H →
  (J.stop i H ∧ Q (.ref D) H) ∨ (J.go i H ∧ ∃ Nx : Hp → Prop, (∀ H', Nx H' → ∃ m', m' < m ∧ W (i + 1) m' H') ∧ ∀ x H', J.yld i H x H' → g x (wipe σ vs) H' fun σ2 H2 => wipe σ2 vs = wipe σ vs ∧ tt σ2 H2 fun b H3 =>
    if b = true then te σ2 H3 fun y H4 => ∃ acc, H4 D = some (.lst acc) ∧ acc.length < sizeLine ∧ Nx (upd H4 D (.lst (acc ++ [y]))) else Nx H3)
theorem lc_core {pins : List (Addr × Obj)} {s : Shared} {σ : St} {H : Hp} {Q : VK} {elt tg iter : Expr} {ifs : List Expr} {scope : Scope} {own : List (Str × Nat)} {pos pos' : Pos} {wi : TI} {g : TG} {tt : TT} {te : TE} {use : Option (Value → Sem Unit)} {Qf : Value → Shared → Prop}
    (hc : X.calm = true) (hN : X.N.Nodup) (I : Inv X pins σ H s) (hi : PI X tg iter wi) (ok : BlkOk X.N X.env.scope scope own)
    (hg : ∀ (s : Shared) (H : Hp) (C : Addr) (cl : List (Str × Addr)) (fp : List Addr), PG (X.blk s H scope (compEnvC scope cl C X.env) fp) tg g) (ht : ∀ (s : Shared) (H : Hp) (C : Addr) (cl : List (Str × Addr)) (fp : List Addr), PTs (X.blk s H scope (compEnvC scope cl C X.env) fp) ifs tt)
    (he : ∀ (s : Shared) (H : Hp) (C : Addr) (cl : List (Str × Addr)) (fp : List Addr), PE (X.blk s H scope (compEnvC scope cl C X.env) fp) elt te) (hs : ∀ x, foldedSetIterable iter X.env x = pure x)
    (h : tLc wi g tt te (own.map (·.2)) σ H Q)
    (hRR : ∀ D C s' m H', Inv X pins σ H' s' → Q (.ref D) H' → s'.heap.Ns C m → FpOk X pins H' C → compPost (model X.prog X.w) X.A X.xe use Qf (.ref D) C (.ok .next) s') :
    wpAny (model X.prog X.w) X.A (comprehension (.ListComp elt [⟨tg, iter, ifs, 0⟩] scope pos) scope X.env pos' (newList []) false (eval iter X.env) use) Qf X.xe s := by
  have hfree : ∀ y ∈ scope.names, y.2 = .free → ∃ c, X.env.cells.lookup y.1 = some c := fun y hy e => by
    rcases ok.free y hy e with k | k
    · exact I.ok.has _ (.inl k)
    · exact I.ok.has _ (.inr k)
  refine wpAny_comprehension_free (use := use) rfl hs (closure_ok hfree) ok.kind (fun y hy e => by rw [ok.uniq y hy, e])
    (thn (hi pins s σ H _ I h) fun xv s1 hx => thn hx fun itv s2 h2 => ?_)
  obtain ⟨it, fp, tn, J, H2, e, I2, T, st2, f2, q⟩ := h2
  subst e
  refine wpAny_newObj_type (newEnv_comp ?_) (by show 0 ≤ sizeLine; decide)
  generalize hD : s2.heap.objs.size = D
  have hDn : H2 D = none := I2.hok.fresh (Nat.le_of_eq hD)
  obtain ⟨W, ⟨m0, w0⟩, turn⟩ := q D hDn
  -- the new list
  generalize hs3 : ({ s2 with heap := s2.heap.push { cls := .type "list", data := .seq ([] : List Value).toArray } } : Shared) = s3
  have I3 : Inv X pins σ (upd H2 D (.lst [])) s3 := by
    rw [← hs3]
    refine I2.laid (t' := s2.toks) (fun b o e => Heap.get?_push_of_some _ e) (Nat.le_of_eq hD) ⟨Nat.zero_le _, [], 0, .nil, ?_⟩
    rw [← hD]
    exact Heap.get?_push_size _ rfl
  have h3 : s3.heap = s2.heap.push { cls := .type "list", data := .seq ([] : List Value).toArray } := by rw [← hs3]
  have sz : ∀ b ∈ fp, b < s2.heap.objs.size := fun b hb => by
    obtain ⟨o, e, _⟩ := T.obj _ _ st2 b hb
    exact Heap.lt_size e
  have f3 : ∀ b ∈ fp, FpOk X pins (upd H2 D (.lst [])) b ∧ b < s3.heap.objs.size := fun b hb => by
    have hlt := sz b hb
    refine ⟨⟨?_, (f2 b hb).2⟩, by rw [h3, Heap.size_push]; exact Nat.lt_succ_of_lt hlt⟩
    rw [upd_ne (by rw [← hD]; exact Nat.ne_of_lt hlt)]
    exact (f2 b hb).1
  have st3 : tn 0 s3.heap := T.keep _ _ _ st2 fun b _ o e => by rw [h3]; exact Heap.get?_push_of_some _ e
  have I4 := block_start I3 ok hN f3
  have pg := hg s3 (upd H2 D (.lst [])) s3.heap.objs.size (cellsFrom (s3.heap.objs.size + 1) scope.names (cloFrom X.env.cells scope.names [])) fp
  have pt := ht s3 (upd H2 D (.lst [])) s3.heap.objs.size (cellsFrom (s3.heap.objs.size + 1) scope.names (cloFrom X.env.cells scope.names [])) fp
  have pe := he s3 (upd H2 D (.lst [])) s3.heap.objs.size (cellsFrom (s3.heap.objs.size + 1) scope.names (cloFrom X.env.cells scope.names [])) fp
  show codeAny _ _ (.compStart (.ListComp elt [⟨tg, iter, ifs, 0⟩] scope pos) 0 (.ref it) (.ref D) (compEnvC scope (cellsFrom (s3.heap.objs.size + 1) scope.names (cloFrom X.env.cells scope.names [])) s3.heap.objs.size X.env)) (compPost (model X.prog X.w) X.A X.xe use Qf (.ref D) s3.heap.objs.size) { s3 with heap := pushCells (s3.heap.push { cls := .type "dict", data := .dict #[] }) scope.names }
  have nfp : ∀ b ∈ fp, (upd H2 D (.lst [])) b = none := fun b hb => (f3 b hb).1.1
  generalize hce : compEnvC scope (cellsFrom (s3.heap.objs.size + 1) scope.names (cloFrom X.env.cells scope.names [])) s3.heap.objs.size X.env = ce at I4 pg pt pe ⊢
  have cL : ce.locals = s3.heap.objs.size := by subst hce; rfl
  generalize hH3 : upd H2 D (.lst []) = H3 at I3 I4 pg pt pe w0 nfp f3
  generalize hs4 : ({ s3 with heap := pushCells (s3.heap.push { cls := .type "dict", data := .dict #[] }) scope.names } : Shared) = s4 at I4 ⊢
  have st4 : tn 0 s4.heap := T.keep _ _ _ st3 fun b _ o e => by rw [← hs4]; exact pushCells_keeps _ _ _ _ (Heap.get?_push_of_some _ e)
  have stat : ∀ {σ' : St} {H' : Hp} {s' : Shared}, Inv (X.blk s3 H3 scope ce fp) [] σ' H' s' → (∀ b ∈ fp, H' b = none) → ∀ b ∈ fp, FpOk (X.blk s3 H3 scope ce fp) [] H' b := fun {σ' H' s'} I' hn b hb =>
    ⟨hn b hb, (I'.ok.exf b hb).1, I'.ok.exfs b hb, .inl hb, fun x c e => (I'.ok.exf b hb).2 x c e, fun p hp => absurd (show p ∈ ([] : List (Addr × Obj)) ++ [] from hp) (by simp)⟩
  have loop : codeAny (model X.prog X.w) X.A (.compLoop (.ListComp elt [⟨tg, iter, ifs, 0⟩] scope pos) 0 (.ref it) (.ref D) ce) (compPost (model X.prog X.w) X.A X.xe use Qf (.ref D) s3.heap.objs.size) s4 := by
    refine compLoop_any (fun n s' => ∃ i H', Inv (X.blk s3 H3 scope ce fp) [] (wipe σ (own.map (·.2))) H' s' ∧ tn i s'.heap ∧ (∀ b ∈ fp, H' b = none) ∧ W i n H') ?_ m0 ⟨0, H3, I4, st4, nfp, w0⟩
    rintro n s5 ⟨i, H5, I5, st5, n5, w5⟩
    rcases turn i n H5 w5 with ⟨stop, qq⟩ | ⟨go, Nx, hNx, step⟩
    · have td := T.done (X.blk s3 H3 scope ce fp) rfl rfl rfl hc i [] s5 _ H5 (fun _ _ => False) I5 (stat I5 n5) st5 stop
      refine thnF td fun r s6 ⟨hr, I6⟩ => ?_
      subst hr
      -- back in the def's context
      have I7 : Inv X pins σ H5 s6 := I3.call' (ch := fp) I6.os I6.base I6.hok I6.bare fun b hb => ⟨(f3 b hb).1.2.2.2.1, (f3 b hb).1.2.1, (f3 b hb).1.2.2.2.2.1, (f3 b hb).1.2.2.2.2.2⟩
      have nC : H5 s3.heap.objs.size = none := by
        have z : H5 ce.locals = none := I6.free
        rw [cL] at z
        exact z
      obtain ⟨m, hn, _⟩ := I6.loc
      have hn : s6.heap.Ns ce.locals m := hn
      rw [cL] at hn
      exact hRR D s3.heap.objs.size s6 m H5 I7 qq hn (I3.fpOk (Nat.le_refl _) nC)
    · have ti := T.item (X.blk s3 H3 scope ce fp) rfl rfl rfl hc i [] s5 _ H5 (fun _ _ => False) I5 (stat I5 n5) st5 go
      refine thnF ti fun r s6 ⟨u, hr, h6⟩ => ?_
      subst hr
      refine thnF h6 fun _ s7 ⟨x, H7, I7, r7, y7, st7, n7⟩ => ?_
      have I7' := I7.pinned (stat I7 n7) (T.obj _ _ st7)
      refine thnF (pg _ s7 _ H7 x u _ I7' r7 (step x H7 y7)) fun _ s8 ⟨σ8, H8, I8, hw8, q8⟩ => ?_
      refine thnF (pt _ s8 σ8 H8 _ I8 q8) fun b s9 ⟨H9, I9, q9⟩ => ?_
      -- the turn's end
      have fin : ∀ {s' : Shared} {H' : Hp}, Inv (X.blk s3 H3 scope ce fp) ([] ++ pinsAt fp s7.heap) σ8 H' s' → Nx H' → ∃ m, m < n ∧ ∃ i H', Inv (X.blk s3 H3 scope ce fp) [] (wipe σ (own.map (·.2))) H' s' ∧ tn i s'.heap ∧ (∀ b ∈ fp, H' b = none) ∧ W i m H' := fun {s' H'} I' nx => by
        obtain ⟨m', hm, w'⟩ := hNx H' nx
        have pin' : ∀ b ∈ fp, ∀ o, s7.heap.get? b = some o → s'.heap.get? b = some o ∧ H' b = none := fun b hb o e =>
          let z := I'.pin (b, o) (List.mem_append_right _ (List.mem_append_right _ (mem_pinsAt hb e)))
          ⟨z.1, z.2.1⟩
        have hl : (wipe σ (own.map (·.2))).length = σ8.length := by rw [← hw8, wipe_length]
        refine ⟨m', hm, i + 1, H', (I'.unpinned (pins := [])).weak hl (fun j v e => ?_), T.keep _ _ _ st7 fun b hb o e => (pin' b hb o e).1, fun b hb => ?_, w'⟩
        · rw [← hw8] at e
          exact (wipe_some e).1
        · obtain ⟨o, e, _⟩ := T.obj _ _ st7 b hb
          exact (pin' b hb o e).2
      cases b with
      | false =>
        simp only [Bool.false_eq_true, if_false] at q9 ⊢
        exact fin I9 q9
      | true =>
        simp only [if_true] at q9 ⊢
        refine thnF (pe _ s9 σ8 H9 _ I9 q9) fun z s10 ⟨yv, H10, I10, r10, acc, hD10, hz10, nx⟩ => ?_
        exact app_ok (X := X.blk s3 H3 scope ce fp) I10 hD10 hz10 r10 fun s11 I11 => fin I11 nx
  exact codeAny_compStart_list loop (T.self X.A 0 _ _ _ st4 loop)
/-- as a value -/
theorem pe_lc {elt tg iter : Expr} {ifs : List Expr} {scope : Scope} {own : List (Str × Nat)} {pos : Pos} {wi : TI} {g : TG} {tt : TT} {te : TE} (hc : X.calm = true) (hN : X.N.Nodup) (hi : PI X tg iter wi) (ok : BlkOk X.N X.env.scope scope own)
    (hg : ∀ (s : Shared) (H : Hp) (C : Addr) (cl : List (Str × Addr)) (fp : List Addr), PG (X.blk s H scope (compEnvC scope cl C X.env) fp) tg g) (ht : ∀ (s : Shared) (H : Hp) (C : Addr) (cl : List (Str × Addr)) (fp : List Addr), PTs (X.blk s H scope (compEnvC scope cl C X.env) fp) ifs tt)
    (he : ∀ (s : Shared) (H : Hp) (C : Addr) (cl : List (Str × Addr)) (fp : List Addr), PE (X.blk s H scope (compEnvC scope cl C X.env) fp) elt te) (hs : ∀ x, foldedSetIterable iter X.env x = pure x := by intro _; rfl) :
    PE X (.ListComp elt [⟨tg, iter, ifs, 0⟩] scope pos) (tLc wi g tt te (own.map (·.2))) := by
  intro pins s σ H Q I h
  rw [eval_ListComp]
  refine lc_core hc hN I hi ok hg ht he hs h fun D C s' m H' I' q hn f => ⟨m, hn, fun h'' sb => ?_⟩
  obtain ⟨f0, f1, f2, f3, f4, f5⟩ := f
  exact ⟨.ref D, H', I'.turned (t' := s'.toks) (fun b o hb e => (sb.2 b hb).trans e) f0 f1 f3 f4 f5, rfl, q⟩
/-- name = [..] on one line, the name a local -/
theorem ps_setLc {i : Nat} {y : Str} {py : Pos} {elt tg iter : Expr} {ifs : List Expr} {scope : Scope} {own : List (Str × Nat)} {pos spos : Pos} {wi : TI} {g : TG} {tt : TT} {te : TE} (hc : X.calm = true) (hN : X.N.Nodup) (hy : X.N[i]? = some y) (hyl : X.env.scope.names.lookup y = some .local)
    (hsw : swapsWith (.ListComp elt [⟨tg, iter, ifs, 0⟩] scope pos) (some (.Name y py)) spos.line X.env = pure true) (hi : PI X tg iter wi) (ok : BlkOk X.N X.env.scope scope own)
    (hg : ∀ (s : Shared) (H : Hp) (C : Addr) (cl : List (Str × Addr)) (fp : List Addr), PG (X.blk s H scope (compEnvC scope cl C X.env) fp) tg g) (ht : ∀ (s : Shared) (H : Hp) (C : Addr) (cl : List (Str × Addr)) (fp : List Addr), PTs (X.blk s H scope (compEnvC scope cl C X.env) fp) ifs tt)
    (he : ∀ (s : Shared) (H : Hp) (C : Addr) (cl : List (Str × Addr)) (fp : List Addr), PE (X.blk s H scope (compEnvC scope cl C X.env) fp) elt te) (hs : ∀ x, foldedSetIterable iter X.env x = pure x := by intro _; rfl) :
    PS X (.Assign [.Name y py] (.ListComp elt [⟨tg, iter, ifs, 0⟩] scope pos) spos) (tAsg (tLc wi g tt te (own.map (·.2))) (gName i)) := by
  intro pins s σ H D I h
  rw [exec_Assign_Name_used _ _ _ _ hsw]
  refine wpAny_bind (wpAny_standAt (wpAny_bind ?_))
  show wpAny _ X.A (do let _ ← comprehension (.ListComp elt [⟨tg, iter, ifs, 0⟩] scope pos) scope X.env (firstIterPos [⟨tg, iter, ifs, 0⟩] pos) (newList []) false (eval iter X.env) (some (assign (.Name y py) X.env))) _ _ s
  have h : tLc wi g tt te (own.map (·.2)) σ H (fun x H1 => gName i x σ H1 D.nx) := h
  refine wpAny_bind (thn (lc_core (Qf := fun _ s' => SP X pins D .next s') hc hN I hi ok hg ht he hs h fun L C s' m H' I' q hn f => ?_) fun _ s' hq => wpAny_pure (wpAny_pure hq))
  show wpAny _ _ (assign (.Name y py) X.env (.ref L)) _ _ _
  refine wpAny_assign_Name (store_ok2 (v := V.ref L) I' hN hy (.inl hyl) rfl (fun s2 I2 ⟨a, sb, ha⟩ => ?_) (.inr hyl))
  obtain ⟨f0, f1, f2, f3, f4, f5⟩ := f
  have haC : C ≠ a := by
    rcases ha with z | z
    · rw [z]; exact f1
    · exact fun e => f4 y a z e.symm
  refine ⟨m, hn.sameBut sb haC, fun h3 sb3 => ?_⟩
  exact ⟨_, H', I2.turned (t' := s2.toks) (fun b o hb e => (sb3.2 b hb).trans e) f0 f1 f3 f4 f5, q⟩
theorem sw_true {elt : Expr} {gs : List Comprehension} {scope : Scope} {pos py : Pos} {y : Str} {l : Nat} {env : Env} (hk : env.scope.kind = .function) (hy : env.scope.names.lookup y = some .local) (hl : (py.line == pos.line) = true)
    (ha : (scope.names.any fun (n, k) => n == y && (k == .local || k == .cell)) = false) : swapsWith (.ListComp elt gs scope pos) (some (.Name y py)) l env = pure true := by
  have ky : env.kindOf y = some .local := hy
  have hb : env.blockKind = .function := by unfold Env.blockKind; rw [hk]; rfl
  unfold swapsWith
  simp only [hb, ky, ha, Expr.pos, hl]
  rfl
end

/-! ### the forms one uses -/
/-- over a range: Pv by the turn and the heap (the new list at D within) -/
theorem lc_range {lo : Int} {n : Nat} {g : TG} {tt : TT} {te : TE} {vs : List Nat} {σ : St} {H1 : Hp} {D : Addr} {Qd : Hp → Prop} (Pv : Nat → Hp → Prop) (h0 : Pv 0 (upd H1 D (.lst [])))
    (hs : ∀ i H, i < n → Pv i H → g (.int (lo + i)) (wipe σ vs) H fun σ2 H2 => wipe σ2 vs = wipe σ vs ∧ tt σ2 H2 fun b H3 =>
      if b = true then te σ2 H3 fun y H4 => ∃ acc, H4 D = some (.lst acc) ∧ acc.length < sizeLine ∧ Pv (i + 1) (upd H4 D (.lst (acc ++ [y]))) else Pv (i + 1) H3) (hd : ∀ H, Pv n H → Qd H) :
    ∃ W : Nat → Nat → Hp → Prop, (∃ m, W 0 m (upd H1 D (.lst []))) ∧ ∀ i m H, W i m H →
      ((Itr lo n).stop i H ∧ Qd H) ∨ ((Itr lo n).go i H ∧ ∃ Nx : Hp → Prop, (∀ H', Nx H' → ∃ m', m' < m ∧ W (i + 1) m' H') ∧ ∀ x H', (Itr lo n).yld i H x H' → g x (wipe σ vs) H' fun σ2 H2 => wipe σ2 vs = wipe σ vs ∧ tt σ2 H2 fun b H3 =>
        if b = true then te σ2 H3 fun y H4 => ∃ acc, H4 D = some (.lst acc) ∧ acc.length < sizeLine ∧ Nx (upd H4 D (.lst (acc ++ [y]))) else Nx H3) := by
  refine ⟨fun i m H => m = n - i ∧ i ≤ n ∧ Pv i H, ⟨n, by simp, Nat.zero_le _, h0⟩, ?_⟩
  rintro i m H ⟨rfl, hi, p⟩
  by_cases hlt : i < n
  · refine .inr ⟨hlt, Pv (i + 1), fun H' p' => ⟨n - (i + 1), by omega, rfl, hlt, p'⟩, fun x H' y => ?_⟩
    obtain ⟨e, y⟩ := y
    subst e y
    exact hs i _ hlt p
  · have e : i = n := by omega
    subst e
    exact .inl ⟨Nat.le_refl _, hd H p⟩
/-- over a list that the block leaves as it is -/
theorem lc_list {K : PySem.W.Frag} {a : Addr} {xs : List V} {g : TG} {tt : TT} {te : TE} {vs : List Nat} {σ : St} {H1 : Hp} {D : Addr} {Qd : Hp → Prop} (Pv : Nat → Hp → Prop) (h0 : Pv 0 (upd H1 D (.lst []))) (hl : ∀ i H, i ≤ xs.length → Pv i H → SqL K H a xs)
    (hs : ∀ i x H, xs[i]? = some x → Pv i H → g x (wipe σ vs) H fun σ2 H2 => wipe σ2 vs = wipe σ vs ∧ tt σ2 H2 fun b H3 =>
      if b = true then te σ2 H3 fun y H4 => ∃ acc, H4 D = some (.lst acc) ∧ acc.length < sizeLine ∧ Pv (i + 1) (upd H4 D (.lst (acc ++ [y]))) else Pv (i + 1) H3) (hd : ∀ H, Pv xs.length H → Qd H) :
    ∃ W : Nat → Nat → Hp → Prop, (∃ m, W 0 m (upd H1 D (.lst []))) ∧ ∀ i m H, W i m H →
      ((Itl K a).stop i H ∧ Qd H) ∨ ((Itl K a).go i H ∧ ∃ Nx : Hp → Prop, (∀ H', Nx H' → ∃ m', m' < m ∧ W (i + 1) m' H') ∧ ∀ x H', (Itl K a).yld i H x H' → g x (wipe σ vs) H' fun σ2 H2 => wipe σ2 vs = wipe σ vs ∧ tt σ2 H2 fun b H3 =>
        if b = true then te σ2 H3 fun y H4 => ∃ acc, H4 D = some (.lst acc) ∧ acc.length < sizeLine ∧ Nx (upd H4 D (.lst (acc ++ [y]))) else Nx H3) := by
  refine ⟨fun i m H => m = xs.length - i ∧ i ≤ xs.length ∧ Pv i H, ⟨xs.length, by simp, Nat.zero_le _, h0⟩, ?_⟩
  rintro i m H ⟨rfl, hi, p⟩
  have q := hl i H hi p
  by_cases hlt : i < xs.length
  · refine .inr ⟨⟨xs, xs[i], q, by simp [hlt]⟩, Pv (i + 1), fun H' p' => ⟨xs.length - (i + 1), by omega, rfl, hlt, p'⟩, fun x H' y => ?_⟩
    obtain ⟨e, y⟩ := y
    subst e
    exact hs i x _ (y xs q) p
  · have e : i = xs.length := by omega
    subst e
    exact .inl ⟨⟨xs, q, Nat.le_refl _⟩, hd H p⟩
def blkC (N : List Str) (sc scope : Scope) (own : List (Str × Nat)) : Bool :=
  (match scope.kind with | .function => true | _ => false) && (scope.names.all fun y => decide (scope.names.lookup y.1 = some y.2)) && (own.all fun p => decide (N[p.2]? = some p.1)) &&
    (scope.names.all fun y => match y.2 with
      | .free => (match sc.names.lookup y.1 with | some .cell => true | some .free => true | _ => false)
      | .local => decide (y.1 ∈ own.map (·.1)) || decide (y.1 ∉ N)
      | .cell => decide (y.1 ∈ own.map (·.1)) || decide (y.1 ∉ N)
      | _ => true)
theorem blkOk_by {N : List Str} {sc scope : Scope} {own : List (Str × Nat)} (h : blkC N sc scope own = true) : BlkOk N sc scope own := by
  unfold blkC at h
  simp only [Bool.and_eq_true, List.all_eq_true, decide_eq_true_eq] at h
  obtain ⟨⟨⟨h1, h2⟩, h3⟩, h4⟩ := h
  refine ⟨?_, h2, h3, fun y hy e => ?_, fun y hy e => ?_⟩
  · split at h1
    · assumption
    · cases h1
  · have q := h4 y hy
    simp only [e] at q
    split at q <;> first | exact .inl (by assumption) | exact .inr (by assumption) | cases q
  · have q := h4 y hy
    rcases e with e | e <;> (simp only [e, Bool.or_eq_true, decide_eq_true_eq] at q; exact q)
end L2

namespace L2
open PySem PySem.Spec PyProof.Rows

section
variable {prog : Program} {w : World} {A : Around} {R : Result → Shared → Prop} {s : Shared} {elt t0 i0 t1 i1 : Expr} {ifs0 ifs1 : List Expr} {scope : Scope} {pos : Pos} {it acc : Value} {env : Env}
end

section
variable {X : Cx}
end
end L2

namespace L2
open PySem PySem.Spec PyProof.Rows

/-! ### lists of pairs as tables -/
section
variable {κ : Type} [DecidableEq κ]
def valV (kvs : List (κ × V)) (k : κ) : Option V := (kvs.find? fun kv => decide (kv.1 = k)).map (·.2)
/-- in its place, or at the end -/
def putK (kvs : List (κ × V)) (k : κ) (v : V) : List (κ × V) :=
  if (kvs.any fun kv => decide (kv.1 = k)) = true then kvs.map (fun kv => if kv.1 = k then (kv.1, v) else kv) else kvs ++ [(k, v)]
theorem valV_pos {p : κ × V} {r : List (κ × V)} {k : κ} (e : p.1 = k) : valV (p :: r) k = some p.2 := by simp [valV, List.find?_cons, e]
theorem valV_neg {p : κ × V} {r : List (κ × V)} {k : κ} (e : ¬ p.1 = k) : valV (p :: r) k = valV r k := by simp [valV, List.find?_cons, e]
theorem valV_any (k : κ) : ∀ kvs : List (κ × V), (kvs.any fun kv => decide (kv.1 = k)) = (valV kvs k).isSome
  | [] => rfl
  | p :: r => by
    rw [List.any_cons]
    by_cases e : p.1 = k
    · simp only [valV_pos e, decide_eq_true e, Bool.true_or, Option.isSome_some]
    · rw [valV_neg e, decide_eq_false e, Bool.false_or]; exact valV_any k r
theorem valV_map (k j : κ) (y : V) : ∀ kvs : List (κ × V), valV (kvs.map fun kv => if kv.1 = k then (kv.1, y) else kv) j = (valV kvs j).map fun x => if j = k then y else x
  | [] => rfl
  | p :: r => by
    have ih := valV_map k j y r
    rw [List.map_cons]
    by_cases h : p.1 = k
    · rw [if_pos h]
      by_cases e : p.1 = j
      · rw [valV_pos (p := (p.1, y)) e, valV_pos e, Option.map_some, if_pos (e.symm.trans h)]
      · rw [valV_neg (p := (p.1, y)) e, valV_neg e, ih]
    · rw [if_neg h]
      by_cases e : p.1 = j
      · rw [valV_pos (p := p) e, valV_pos e, Option.map_some, if_neg (fun z => h (e.trans z))]
      · rw [valV_neg (p := p) e, valV_neg e, ih]
theorem valV_snoc (k j : κ) (y : V) : ∀ kvs : List (κ × V), valV kvs k = none → valV (kvs ++ [(k, y)]) j = if j = k then some y else valV kvs j
  | [], _ => by
    by_cases e : k = j
    · rw [if_pos e.symm]; exact valV_pos (p := (k, y)) e
    · rw [if_neg (fun z => e z.symm)]; exact valV_neg (p := (k, y)) e
  | p :: r, hn => by
    rw [List.cons_append]
    have hk : ¬ p.1 = k := fun z => by rw [valV_pos z] at hn; cases hn
    rw [valV_neg hk] at hn
    have ih := valV_snoc k j y r hn
    by_cases e : p.1 = j
    · rw [valV_pos e, valV_pos e, if_neg (fun z => hk (e.trans z))]
    · rw [valV_neg e, valV_neg e, ih]
theorem valV_put (kvs : List (κ × V)) (k j : κ) (y : V) : valV (putK kvs k y) j = if j = k then some y else valV kvs j := by
  unfold putK
  by_cases a : (kvs.any fun kv => decide (kv.1 = k)) = true
  · rw [if_pos a, valV_map]
    rw [valV_any] at a
    by_cases e : j = k
    · obtain ⟨x, hx⟩ := Option.isSome_iff_exists.mp a
      rw [if_pos e, e, hx, Option.map_some, if_pos rfl]
    · rw [if_neg e]
      cases valV kvs j with
      | none => rfl
      | some x => rw [Option.map_some, if_neg e]
  · rw [if_neg a]
    refine valV_snoc k j y kvs ?_
    rw [valV_any] at a
    cases q : valV kvs k with
    | none => rfl
    | some x => rw [q] at a; exact (a rfl).elim
theorem length_putK (kvs : List (κ × V)) (k : κ) (v : V) : (putK kvs k v).length ≤ kvs.length + 1 := by
  unfold putK
  split
  · rw [List.length_map]; omega
  · rw [List.length_append, List.length_cons, List.length_nil]; omega
theorem putK_new {kvs : List (κ × V)} {k : κ} (v : V) (h : valV kvs k = none) : putK kvs k v = kvs ++ [(k, v)] := by
  unfold putK
  rw [valV_any, h]
  exact if_neg (by decide)

theorem RelO.isSome_eq {o : Option V} {u : Option Value} (r : RelO o u) : o.isSome = u.isSome := by
  cases o with
  | none => cases u with
    | none => rfl
    | some _ => exact (show False from r).elim
  | some _ => cases u with
    | none => exact (show False from r).elim
    | some _ => rfl
theorem RelO.getD {o : Option V} {u : Option Value} {d : V} {d' : Value} (r : RelO o u) (rd : RelV d d') : RelV (o.getD d) (u.getD d') := by
  cases o with
  | none => cases u with
    | none => exact rd
    | some _ => exact (show False from r).elim
  | some _ => cases u with
    | none => exact (show False from r).elim
    | some _ => exact r

/-- raw tables of the same keys -/
theorem KV.val {kvs : List (κ × V)} {vs : List (κ × Value)} (r : KV kvs vs) (k : κ) : RelO (valV kvs k) (valueAt vs k) := by
  unfold KV at r
  induction r with
  | nil => exact True.intro
  | @cons p q ps qs h t ih =>
    obtain ⟨h1, h2⟩ := h
    by_cases e : p.1 = k
    · have e' : q.1 = k := h1.symm.trans e
      have b : valueAt (q :: qs) k = some q.2 := by simp [valueAt, List.find?_cons, e']
      rw [valV_pos e, b]; exact h2
    · have e' : ¬ q.1 = k := fun z => e (h1.trans z)
      have b : valueAt (q :: qs) k = valueAt qs k := by simp [valueAt, List.find?_cons, e']
      rw [valV_neg e, b]; exact ih
theorem KV.any {kvs : List (κ × V)} {vs : List (κ × Value)} (r : KV kvs vs) (k : κ) : (kvs.any fun kv => decide (kv.1 = k)) = vs.any fun kv => decide (kv.1 = k) := by
  unfold KV at r
  induction r with
  | nil => rfl
  | cons h t ih => rw [List.any_cons, List.any_cons, ih, h.1]
theorem KV.repl {kvs : List (κ × V)} {vs : List (κ × Value)} (r : KV kvs vs) (k : κ) {y : V} {u : Value} (ry : RelV y u) :
    KV (kvs.map fun kv => if kv.1 = k then (kv.1, y) else kv) (vs.map fun kv => if kv.1 = k then (kv.1, u) else kv) := by
  unfold KV at r ⊢
  induction r with
  | nil => exact .nil
  | @cons p q ps qs h t ih =>
    rw [List.map_cons, List.map_cons]
    refine .cons ?_ ih
    obtain ⟨h1, h2⟩ := h
    by_cases e : p.1 = k
    · rw [if_pos e, if_pos (h1.symm.trans e)]; exact ⟨h1, ry⟩
    · rw [if_neg e, if_neg (fun z => e (h1.trans z))]; exact ⟨h1, h2⟩
theorem KV.put {kvs : List (κ × V)} {vs : List (κ × Value)} (r : KV kvs vs) (k : κ) {y : V} {u : Value} (ry : RelV y u) : KV (putK kvs k y) (stored vs k u) := by
  unfold putK stored
  rw [r.any k]
  by_cases e : (vs.any fun kv => decide (kv.1 = k)) = true
  · rw [if_pos e, if_pos e]; exact r.repl k ry
  · rw [if_neg e, if_neg e]; exact Paired.snoc r ⟨rfl, ry⟩
theorem KV.length {kvs : List (κ × V)} {vs : List (κ × Value)} (r : KV kvs vs) : kvs.length = vs.length := Paired.length r
end


/-! ### a tracked dict, its keys ints and texts or tuples of these -/
theorem kV_is {P : Program} {w : World} {k : Key} {u : Value} (r : RelV (kV k) u) : (mixKind P w).is k u = true := by
  cases k with
  | inl i => obtain ⟨t, e⟩ := (show ∃ t, u = Value.int i t from r); subst e; exact mixKind_int P w i t
  | inr x => obtain ⟨t, e⟩ := (show ∃ t, u = Value.str x t from r); subst e; exact mixKind_str P w x t
theorem items_are {P : Program} {w : World} : ∀ {ks : List Key} {us : List Value}, Vals (ks.map kV) us → ItemsAre (mixKind P w) ks us
  | [], _, r => by rw [List.map_nil] at r; cases r; exact .nil
  | k :: ks, _, r => by
    rw [List.map_cons] at r
    cases r with
    | cons h t => exact .cons (kV_is h) (items_are t)

/-- raw entries of a dict with tuple keys -/
abbrev KT (H : Hp) : List (List Key × V) → List (List Key × Addr × Value) → Prop := Paired fun p q => p.1 = q.1 ∧ H q.2.1 = some (.tup (p.1.map kV)) ∧ RelV p.2 q.2.2
theorem KT.val {H : Hp} {kvs : List (List Key × V)} {xs : List (List Key × Addr × Value)} (r : KT H kvs xs) (k : List Key) : RelO (valV kvs k) ((atKey xs k).map (·.2)) := by
  induction r with
  | nil => exact True.intro
  | @cons p q ps qs h t ih =>
    obtain ⟨h1, _, h2⟩ := h
    by_cases e : p.1 = k
    · have e' : q.1 = k := h1.symm.trans e
      have b : atKey (q :: qs) k = some q.2 := by simp [atKey, List.find?_cons, e']
      rw [valV_pos e, b]; exact h2
    · have e' : ¬ q.1 = k := fun z => e (h1.trans z)
      have b : atKey (q :: qs) k = atKey qs k := by simp [atKey, List.find?_cons, e']
      rw [valV_neg e, b]; exact ih
theorem KT.repl {H : Hp} {kvs : List (List Key × V)} {xs : List (List Key × Addr × Value)} (r : KT H kvs xs) (k : List Key) {y : V} {u : Value} (ry : RelV y u) :
    KT H (kvs.map fun kv => if kv.1 = k then (kv.1, y) else kv) (xs.map (putAt k u)) := by
  induction r with
  | nil => exact .nil
  | @cons p q ps qs h t ih =>
    rw [List.map_cons, List.map_cons]
    refine .cons ?_ ih
    obtain ⟨h1, h2, h3⟩ := h
    unfold putAt
    by_cases e : p.1 = k
    · rw [if_pos e, if_pos (h1.symm.trans e)]; exact ⟨h1, h2, ry⟩
    · rw [if_neg e, if_neg (fun z => e (h1.trans z))]; exact ⟨h1, h2, h3⟩
theorem KT.put {H : Hp} {kvs : List (List Key × V)} {xs : List (List Key × Addr × Value)} (r : KT H kvs xs) (k : List Key) {b : Addr} {y : V} {u : Value} (hb : H b = some (.tup (k.map kV))) (ry : RelV y u) :
    KT H (putK kvs k y) (storedH xs k b u) := by
  have e : (kvs.any fun kv => decide (kv.1 = k)) = (atKey xs k).isSome := by
    rw [valV_any, (r.val k).isSome_eq, Option.isSome_map]
  unfold putK storedH
  rw [e]
  by_cases q : (atKey xs k).isSome = true
  · rw [if_pos q, if_pos q]; exact r.repl k ry
  · rw [if_neg q, if_neg q]; exact Paired.snoc r ⟨rfl, hb, ry⟩
theorem KT.keeps {H H' : Hp} {kvs : List (List Key × V)} {xs : List (List Key × Addr × Value)} (r : KT H kvs xs) (ht : ∀ b ys, H b = some (.tup ys) → H' b = some (.tup ys)) : KT H' kvs xs :=
  Paired.mapP r fun _ _ z => ⟨z.1, ht _ _ z.2.1, z.2.2⟩

section
variable {P : Program} {w : World} {H : Hp} {h : Heap} {a : Addr}
theorem rd_of {u : HO} (ok : HOk P w H h) (e : Rd H a u) : ObjOk P w H h a u := e.ok ok
theorem dk_rd {kvs : List (Key × V)} (ok : HOk P w H h) (e : Rd H a (.dK kvs)) : kvs.length ≤ sizeLine ∧ (a == sysModules) = false ∧ ∃ vs, KV kvs vs ∧ h.DictOf (mixKind P w) a vs :=
  show ObjOk P w H h a (.dK kvs) from rd_of ok e
theorem dk_of {kvs : List (Key × V)} (ok : HOk P w H h) (e : H a = some (.dK kvs)) : kvs.length ≤ sizeLine ∧ (a == sysModules) = false ∧ ∃ vs, KV kvs vs ∧ h.DictOf (mixKind P w) a vs := dk_rd ok (.inl e)
/-- a tracked tuple of ints and texts is a key -/
theorem key_of {ks : List Key} (ok : HOk P w H h) (e : H a = some (.tup (ks.map kV))) : (tupleKind (mixKind P w)).is h ks a := by
  obtain ⟨_, its, r, o, h1, h2, n, h3⟩ := (show ObjOk P w H h a (.tup (ks.map kV)) from ok a _ e)
  exact ⟨o, its.toArray, n, h1, h2, h3, by simpa using items_are r⟩
theorem dt_rd {kvs : List (List Key × V)} (ok : HOk P w H h) (e : Rd H a (.dT kvs)) : kvs.length ≤ sizeLine ∧ (a == sysModules) = false ∧
    ∃ xs, KT H kvs xs ∧ h.DictOfH (tupleKind (mixKind P w)) a xs := by
  obtain ⟨z, y, xs, r, o, es, ep, h1, h2, h3, h4, h5⟩ := (show ObjOk P w H h a (.dT kvs) from rd_of ok e)
  refine ⟨z, y, xs, r, o, es, ep, h1, h2, h3, h4, fun x hx => ?_, h5⟩
  have all : ∀ {l : List (List Key × V)} {m : List (List Key × Addr × Value)}, KT H l m → ∀ x ∈ m, (tupleKind (mixKind P w)).is h x.1 x.2.1 := by
    intro l m q
    induction q with
    | nil => intro x hx; exact nomatch hx
    | @cons p q ps qs hq t ih =>
      intro x hx
      rcases List.mem_cons.mp hx with e | hx
      · subst e
        exact key_of ok (by rw [← hq.1]; exact hq.2.1)
      · exact ih x hx
  exact all r x hx
theorem dt_of {kvs : List (List Key × V)} (ok : HOk P w H h) (e : H a = some (.dT kvs)) : kvs.length ≤ sizeLine ∧ (a == sysModules) = false ∧
    ∃ xs, KT H kvs xs ∧ h.DictOfH (tupleKind (mixKind P w)) a xs := dt_rd ok (.inl e)
end

/-- what the dict at a holds at the key y -/
def DGet (H : Hp) (a : Addr) (y : V) (r : Option V) : Prop :=
  (∃ kvs k, Rd H a (.dK kvs) ∧ y = kV k ∧ r = valV kvs k) ∨ ∃ kvs k b, Rd H a (.dT kvs) ∧ y = .ref b ∧ H b = some (.tup (k.map kV)) ∧ r = valV kvs k
/-- the heap behind a[y] = v -/
def DPut (H : Hp) (a : Addr) (y v : V) (H' : Hp) : Prop :=
  (∃ kvs k, H a = some (.dK kvs) ∧ y = kV k ∧ kvs.length < sizeLine ∧ H' = upd H a (.dK (putK kvs k v))) ∨
  ∃ kvs k b, H a = some (.dT kvs) ∧ y = .ref b ∧ H b = some (.tup (k.map kV)) ∧ kvs.length < sizeLine ∧ H' = upd H a (.dT (putK kvs k v))
theorem DGet.k {H : Hp} {a : Addr} {kvs : List (Key × V)} {k : Key} (e : H a = some (.dK kvs)) : DGet H a (kV k) (valV kvs k) := .inl ⟨kvs, k, .inl e, rfl, rfl⟩
theorem DPut.k {H : Hp} {a : Addr} {kvs : List (Key × V)} {k : Key} {v : V} (e : H a = some (.dK kvs)) (hl : kvs.length < sizeLine) : DPut H a (kV k) v (upd H a (.dK (putK kvs k v))) := .inl ⟨kvs, k, e, rfl, hl, rfl⟩
section
variable {X : Cx} {pins : List (Addr × Obj)} {σ : St} {H : Hp} {s : Shared} {a : Addr} {y v : V} {u r : Value} {o : Option V} {A : Around} {E : Value → Shared → Prop}

theorem Inv.big (I : Inv X pins σ H s) : sysModules < s.heap.objs.size := by
  have h : mainGlobals < s.heap.objs.size := (I.mod.glob.keeps I.bk).lt
  exact Nat.lt_trans (by decide) h

/-- d[y], there -/
theorem d_getItem {Q : Value → Shared → Prop} (hu : A.units + 1 < cLine) (I : Inv X pins σ H s) (g : DGet H a y (some v)) (ry : RelV y u) (h : ∀ w' s', Inv X pins σ H s' → RelV v w' → Q w' s') :
    wpAny (model X.prog X.w) A (getItem (.ref a) u) Q E s := by
  rcases g with ⟨kvs, k, e, ey, l⟩ | ⟨kvs, k, b, e, ey, eb, l⟩
  · subst ey
    obtain ⟨z, hd, vs, rel, dd⟩ := dk_rd I.hok e
    obtain ⟨w', hw, rw'⟩ := RelO.some_of (v := v) (o := valueAt vs k) (by rw [l]; exact rel.val k)
    exact wpAny_getItem_of (kV_is ry) dd.mapOf hw (h w' _ (I.tok _) rw')
  · subst ey
    cases (show u = Value.ref b from ry)
    obtain ⟨z, hd, xs, rel, dd⟩ := dt_rd I.hok e
    obtain ⟨w', hw, rw'⟩ := RelO.some_of (v := v) (o := (atKey xs k).map (·.2)) (by rw [l]; exact rel.val k)
    obtain ⟨p, hp, hp2⟩ := Option.map_eq_some_iff.mp hw
    refine wpAny_getItem_heap (tupleKind_room_in1 hu) (key_of I.hok eb) dd hp ?_
    rw [hp2]
    exact h w' _ (I.tok _) rw'
/-- y in d -/
theorem d_in {Q : Value → Shared → Prop} (hu : A.units + 1 < cLine) (I : Inv X pins σ H s) (g : DGet H a y o) (ry : RelV y u) (h : ∀ s', Inv X pins σ H s' → Q (.bool o.isSome) s') :
    wpAny (model X.prog X.w) A (compareOp .In u (.ref a)) Q E s := by
  rcases g with ⟨kvs, k, e, ey, l⟩ | ⟨kvs, k, b, e, ey, eb, l⟩
  · subst ey
    obtain ⟨z, hd, vs, rel, dd⟩ := dk_rd I.hok e
    refine wpAny_in_of (kV_is ry) hd dd.mapOf ?_
    rw [← (rel.val k).isSome_eq, ← l]
    exact h _ (I.tok _)
  · subst ey
    cases (show u = Value.ref b from ry)
    obtain ⟨z, hd, xs, rel, dd⟩ := dt_rd I.hok e
    refine wpAny_in_heap (tupleKind_room_in1 hu) (key_of I.hok eb) hd dd ?_
    have q := (rel.val k).isSome_eq
    rw [Option.isSome_map] at q
    rw [← q, ← l]
    exact h _ (I.tok _)
theorem d_notIn {Q : Value → Shared → Prop} (hu : A.units + 1 < cLine) (I : Inv X pins σ H s) (g : DGet H a y o) (ry : RelV y u) (h : ∀ s', Inv X pins σ H s' → Q (.bool (!o.isSome)) s') :
    wpAny (model X.prog X.w) A (compareOp .NotIn u (.ref a)) Q E s := by
  rcases g with ⟨kvs, k, e, ey, l⟩ | ⟨kvs, k, b, e, ey, eb, l⟩
  · subst ey
    obtain ⟨z, hd, vs, rel, dd⟩ := dk_rd I.hok e
    refine wpAny_notIn_of (kV_is ry) hd dd.mapOf ?_
    rw [← (rel.val k).isSome_eq, ← l]
    exact h _ (I.tok _)
  · subst ey
    cases (show u = Value.ref b from ry)
    obtain ⟨z, hd, xs, rel, dd⟩ := dt_rd I.hok e
    refine wpAny_notIn_heap (tupleKind_room_in1 hu) (key_of I.hok eb) hd dd ?_
    have q := (rel.val k).isSome_eq
    rw [Option.isSome_map] at q
    rw [← q, ← l]
    exact h _ (I.tok _)
/-- a dict's object is replaced -/
theorem d_write {h' : Heap} {t' : Nat} {ob : HO} (I : Inv X pins σ H s) (mu : Mut (H a)) (hs : Heap.SameBut a s.heap h') (he : ∃ q, h'.get? a = some q) (new : ObjOk X.prog X.w (upd H a ob) h' a ob) :
    Inv X pins σ (upd H a ob) { s with heap := h', toks := t' } :=
  I.write (x := a) (e := a) mu (.inl rfl) (fun b q hb z => (hs.2 b hb).trans z) he new
theorem dk_new {P : Program} {w : World} {H' : Hp} {h' : Heap} {kvs : List (Key × V)} {vs : List (Key × Value)} (z : kvs.length ≤ sizeLine) (hd : (a == sysModules) = false) (rel : KV kvs vs) (dd : h'.DictOf (mixKind P w) a vs) :
    ObjOk P w H' h' a (.dK kvs) := ⟨z, hd, vs, rel, dd⟩
/-- d[y] = v -/
theorem d_setItem {H' : Hp} {Q : Unit → Shared → Prop} (hu : A.units + 1 < cLine) (I : Inv X pins σ H s) (g : DPut H a y v H') (ry : RelV y u) (rv : RelV v r) (h : ∀ s', Inv X pins σ H' s' → Q () s') :
    wpAny (model X.prog X.w) A (setItem (.ref a) u r) Q E s := by
  rcases g with ⟨kvs, k, e, ey, l, eH⟩ | ⟨kvs, k, b, e, ey, eb, l, eH⟩
  · subst ey eH
    obtain ⟨z, hd, vs, rel, dd⟩ := dk_of I.hok e
    have hz : vs.length ≤ sizeLine := by rw [← rel.length]; exact z
    have hl : (putK kvs k v).length ≤ sizeLine := by have := length_putK kvs k v; omega
    refine wpAny_setItem_pairs (hsz := hz) (kV_is ry) dd fun h' dd' hs => h _ ?_
    have he : ∃ q, h'.get? a = some q := let ⟨q, _, _, hq, _⟩ := dd'; ⟨q, hq⟩
    exact d_write I (by rw [e]; exact True.intro) hs he (dk_new hl hd (rel.put k rv) dd')
  · subst ey eH
    cases (show u = Value.ref b from ry)
    obtain ⟨z, hd, xs, rel, dd⟩ := dt_of I.hok e
    have hz : xs.length ≤ sizeLine := by rw [← Paired.length rel]; exact z
    have hl : (putK kvs k v).length ≤ sizeLine := by have := length_putK kvs k v; omega
    refine wpAny_setItem_heap (hsz := hz) (tupleKind_room_in1 hu) (key_of I.hok eb) dd fun h' dd' hs => h _ ?_
    obtain ⟨q, es, ep, hq, h2, h3, h4, _, h5⟩ := dd'
    refine d_write I (by rw [e]; exact True.intro) hs ⟨q, hq⟩ ⟨hl, hd, _, (rel.put k eb rv).keeps fun c ys ec => ?_, q, es, ep, hq, h2, h3, h4, h5⟩
    rw [upd_ne (ne_of ec e (fun z => nomatch z))]
    exact ec
end

section
variable {X : Cx} {pins : List (Addr × Obj)} {σ : St} {H : Hp} {s : Shared} {a : Addr} {kvs : List (Key × V)} {k : Key} {u : Value} {A : Around} {E : Value → Shared → Prop}
/-- len(d) -/
theorem d_len {Q : Value → Shared → Prop} (I : Inv X pins σ H s) (e : Rd H a (.dK kvs)) (h : ∀ t s', Inv X pins σ H s' → Q (.int kvs.length t) s') : wpAny (model X.prog X.w) A (call (.builtin "len") [.ref a]) Q E s := by
  obtain ⟨z, hd, vs, rel, dd⟩ := dk_rd I.hok e
  refine call_len_dict hd dd (by rw [← rel.length]; rw [sizeLine_eq] at z; omega) ?_
  rw [← rel.length]
  exact h _ _ (I.tok _)
end


/-! ### readings and rules -/
/-- the element of a subscription, not a slice -/
def NoSl (i : Expr) : Prop := ∀ ov iv, subscripted i false ov iv = operate [ov, iv] (getItem ov iv)
theorem subD_of {prog : Program} {w : World} {A : Around} {E : Value → Shared → Prop} {s : Shared} {env : Env} {value slice : Expr} {pos : Pos} {T id : String} {Q : Value → Shared → Prop}
    (hl : typeLookup (.type T) "__getitem__" = pure (some (.builtin id))) (hs : NoSl slice)
    (h : wpAny (model prog w) A (eval value env) (fun o s₁ => wpAny (model prog w) A (eval slice env) (fun i s₂ => s₂.TypeIs o T ∧ wpAny (model prog w) A (getItem o i) Q E s₂) E s₁) E s) :
    wpAny (model prog w) A (eval (.Subscript value slice pos) env) Q E s := by
  refine Subscript_ (wpAny_mono h (fun o s₁ h₁ => wpAny_mono h₁ (fun i s₂ h₂ => ?_) fun _ _ x => x) fun _ _ x => x)
  obtain ⟨hT, h₂⟩ := h₂
  unfold subscriptTail
  refine wpAny_bind ?_
  rw [getitemInPython_of_ne hT.not_modules]
  refine wpAny_bind (wpAny_specialOf hT hl ?_)
  have fin : wpAny (model prog w) A (subscripted slice false o i) (fun r s₃ => wpAny (model prog w) A (letTemporaryGo value o r >>= fun _ => pure r) Q E s₃) E s₂ := by
    rw [hs o i]
    exact wpAny_operating (wpAny_mono h₂ (fun r s₃ h₃ => wpAny_bind (wpAny_letTemporaryGo (wpAny_pure h₃))) fun _ _ x => x)
  first
    | exact wpAny_pure (wpAny_bind fin)
    | exact wpAny_bind (wpAny_pure (wpAny_bind fin))
    | exact wpAny_bind fin

theorem dict_typeIs {X : Cx} {pins : List (Addr × Obj)} {σ : St} {H : Hp} {s : Shared} {a : Addr} {y : V} {o : Option V} (I : Inv X pins σ H s) (g : DGet H a y o) : s.TypeIs (.ref a) "dict" := by
  rcases g with ⟨kvs, k, e, _, _⟩ | ⟨kvs, k, b, e, _, _, _⟩
  · obtain ⟨_, _, vs, _, dd⟩ := dk_rd I.hok e
    exact dd.typeIs
  · obtain ⟨_, _, xs, _, dd⟩ := dt_rd I.hok e
    exact dd.typeIs
/-- d[y] -/
def tDGet (td ty : TE) : TE := fun σ H Q => td σ H fun x H1 => ty σ H1 fun y H2 => ∃ a v, x = .ref a ∧ DGet H2 a y (some v) ∧ Q v H2
/-- y in d, y not in d -/
def tDIn (ty td : TE) : TE := fun σ H Q => ty σ H fun y H1 => td σ H1 fun x H2 => ∃ a o, x = .ref a ∧ DGet H2 a y o ∧ Q (.bl o.isSome) H2
def tDNotIn (ty td : TE) : TE := fun σ H Q => ty σ H fun y H1 => td σ H1 fun x H2 => ∃ a o, x = .ref a ∧ DGet H2 a y o ∧ Q (.bl (!o.isSome)) H2
/-- d[y] = v -/
def sDPut (td ty tv : TE) : TS := fun D σ H => tv σ H fun v H1 => td σ H1 fun x H2 => ty σ H2 fun y H3 => ∃ a H4, x = .ref a ∧ DPut H3 a y v H4 ∧ D.nx σ H4
section
variable {X : Cx} {o i e value : Expr} {pos pos' tpos : Pos} {td ty tv : TE}
theorem pe_dget (hu : X.A.units + 1 < cLine) (ho : PE X o td) (hi : PE X i ty) (hs : NoSl i) : PE X (.Subscript o i pos) (tDGet td ty) := by
  intro pins s σ H Q I h
  refine subD_of PySem.F.slot_dict_getitem.lookup hs (thn (ho pins s σ H _ I h) fun u s1 ⟨x, H1, I1, rx, q1⟩ => thn (hi pins s1 σ H1 _ I1 q1) fun iv s2 ⟨y, H2, I2, ry, a, v, ex, g, q2⟩ => ?_)
  subst ex
  obtain rfl : u = Value.ref a := rx
  exact ⟨dict_typeIs I2 g, d_getItem hu I2 g ry fun w' s3 I3 rw' => ⟨v, H2, I3, rw', q2⟩⟩
theorem pc_din (hu : X.A.units + 1 < cLine) (hi : PE X i ty) (ho : PE X o td) : PC X .In i o (tDIn ty td) := by
  intro pins s σ H Q I h
  refine thn (hi pins s σ H _ I h) fun iv s1 ⟨y, H1, I1, ry, q1⟩ => thn (ho pins s1 σ H1 _ I1 q1) fun u s2 ⟨x, H2, I2, rx, a, ov, ex, g, q2⟩ => ?_
  subst ex
  obtain rfl : u = Value.ref a := rx
  exact d_in hu I2 g ry fun s3 I3 => ⟨.bl ov.isSome, H2, I3, rfl, q2⟩
theorem pc_dnotin (hu : X.A.units + 1 < cLine) (hi : PE X i ty) (ho : PE X o td) : PC X .NotIn i o (tDNotIn ty td) := by
  intro pins s σ H Q I h
  refine thn (hi pins s σ H _ I h) fun iv s1 ⟨y, H1, I1, ry, q1⟩ => thn (ho pins s1 σ H1 _ I1 q1) fun u s2 ⟨x, H2, I2, rx, a, ov, ex, g, q2⟩ => ?_
  subst ex
  obtain rfl : u = Value.ref a := rx
  exact d_notIn hu I2 g ry fun s3 I3 => ⟨.bl (!ov.isSome), H2, I3, rfl, q2⟩
theorem ps_dput (hu : X.A.units + 1 < cLine) (ho : PE X o td) (hi : PE X i ty) (hv : PE X value tv) (hs : swapsWith value (some (.Subscript o i pos')) pos.line X.env = pure false) :
    PS X (.Assign [.Subscript o i pos'] value pos) (sDPut td ty tv) := by
  intro pins s σ H D I h
  refine wpAny_Assign_Subscript (thn (hv pins s σ H _ I h) fun r s1 ⟨v, H1, I1, rv, q1⟩ => thn (ho pins s1 σ H1 _ I1 q1) fun u s2 ⟨x, H2, I2, rx, q2⟩ => thn (hi pins s2 σ H2 _ I2 q2) fun iv s3 ⟨y, H3, I3, ry, a, H4, ex, g, q3⟩ => ?_) hs
  subst ex
  obtain rfl : u = Value.ref a := rx
  exact d_setItem hu I3 g ry rv fun s4 I4 => ⟨σ, H4, I4, q3⟩
end


/-! ### displays -/
theorem dk_empty {P : Program} {w : World} {H : Hp} (h : Heap) (hb : sysModules < h.objs.size) : ObjOk P w H (h.push { cls := .type "dict", data := .dict #[] }) h.objs.size (.dK []) :=
  ⟨Nat.zero_le _, beq_eq_false_iff_ne.mpr (Ne.symm (Nat.ne_of_lt hb)), [], .nil, Heap.DictOf.new h⟩
/-- {}, to be a dict of the kind that is wanted -/
def tDNewK : TE := fun _ H Q => ∀ p, H p = none → Q (.ref p) (upd H p (.dK []))
section
variable {X : Cx} {pos : Pos}
theorem pe_dnewK : PE X (.Dict [] [] pos) tDNewK := fun pins s σ H Q I h =>
  wpAny_Dict_empty ⟨.ref s.heap.objs.size, _, I.laid (a := s.heap.objs.size) (o := .dK []) (t' := s.toks) (fun _ _ q => Heap.get?_push_of_some _ q) (Nat.le_refl _) (dk_empty s.heap I.big), rfl, h _ (I.hok.fresh (Nat.le_refl _))⟩
end

/-! ### methods -/
/-- a method call o.m(e) of a built-in, with one argument: what must be seen of the text -/
structure M1 (X : Cx) (o : Expr) (m : Str) (apos : Pos) (e : Expr) (cpos : Pos) : Prop where
  base : attributeBase o m X.env (eval o X.env) = eval o X.env
  few : ((backTo cpos (starEach [e] X.env)).all (fun x => !x.1) && (backToKw cpos (keywordEach [] X.env)).all (fun x => x.1.isSome)
    && decide (([e] : List Expr).length + ([] : List Keyword).length + (if ([] : List Keyword).isEmpty then 0 else 1) < 30)) = true
  line : (apos.endLine == cpos.line) = true
  trees : backTo cpos (starEach [e] X.env) = [(false, eval e X.env)]
/-- a is a dict, whatever its keys -/
def IsD (H : Hp) (a : Addr) : Prop := (∃ kvs, Rd H a (.dK kvs)) ∨ ∃ kvs, Rd H a (.dT kvs)
theorem isD_at {X : Cx} {pins : List (Addr × Obj)} {σ : St} {H : Hp} {s : Shared} {a : Addr} (I : Inv X pins σ H s) (d : IsD H a) :
    s.TypeIs (.ref a) "dict" ∧ (∀ b, Value.ref a = .ref b → ∃ ob, s.heap.get? b = some ob ∧ ob.dict = none) ∧ (a == sysModules) = false := by
  rcases d with ⟨kvs, e⟩ | ⟨kvs, e⟩
  · obtain ⟨_, hd, vs, _, dd⟩ := dk_rd I.hok e
    refine ⟨dd.typeIs, fun b q => ?_, hd⟩
    cases q
    obtain ⟨ob, _, _, h1, h2, _⟩ := dd
    exact ⟨ob, h1, h2.2.1⟩
  · obtain ⟨_, hd, xs, _, dd⟩ := dt_rd I.hok e
    refine ⟨dd.typeIs, fun b q => ?_, hd⟩
    cases q
    obtain ⟨ob, _, _, h1, h2, _⟩ := dd
    exact ⟨ob, h1, h2.2.1⟩

section
variable {X : Cx} {pins : List (Addr × Obj)} {σ : St} {H : Hp} {s : Shared} {a : Addr} {y d : V} {u r : Value} {o : Option V} {A : Around} {E : Value → Shared → Prop}
/-- d.get(y) -/
theorem d_get1 {Q : Value → Shared → Prop} (hu : A.units + 1 < cLine) (I : Inv X pins σ H s) (g : DGet H a y o) (ry : RelV y u) (h : ∀ w' s', Inv X pins σ H s' → RelV (o.getD .non) w' → Q w' s') :
    wpAny (model X.prog X.w) A (call (.builtin "dict.get") [.ref a, u]) Q E s := by
  rcases g with ⟨kvs, k, e, ey, l⟩ | ⟨kvs, k, b, e, ey, eb, l⟩
  · subst ey
    obtain ⟨z, hd, vs, rel, dd⟩ := dk_rd I.hok e
    refine call_meetsIn PySem.F.slot_dict_get dd.typeIs PySem.F.entry_dict_get (PySem.F.args_dict_get_2 _ _) (meets_dict_get (mixKind X.prog X.w) a (kV_is ry) hd) ⟨_, dd.mapOf, h _ _ (I.tok _) ?_⟩
    rw [l]
    exact (rel.val k).getD rfl
  · subst ey
    cases (show u = Value.ref b from ry)
    obtain ⟨z, hd, xs, rel, dd⟩ := dt_rd I.hok e
    refine call_meetsIn PySem.F.slot_dict_get dd.typeIs PySem.F.entry_dict_get (PySem.F.args_dict_get_2 _ _) (meetsH_dict_get (tupleKind (mixKind X.prog X.w)) a b hd) ⟨tupleKind_room_in1 hu, k, xs, key_of I.hok eb, dd, h _ _ (I.tok _) ?_⟩
    rw [l]
    exact (rel.val k).getD rfl
end

def tDGet1 (td ty : TE) : TE := fun σ H Q => td σ H fun x H1 => ∃ a, x = .ref a ∧ IsD H1 a ∧ ty σ H1 fun y H2 => ∃ o, DGet H2 a y o ∧ Q (o.getD .non) H2
section
variable {X : Cx} {o e f : Expr} {apos cpos : Pos} {td ty tx : TE}
theorem pe_dget1 (hu : X.A.units + 1 < cLine) (ho : PE X o td) (he : PE X e ty) (m : M1 X o "get" apos e cpos) : PE X (.Call (.Attribute o "get" apos) [e] [] cpos) (tDGet1 td ty) := by
  intro pins s σ H Q I h
  refine wpAny_Call_method m.base m.few m.line PySem.F.plainAttrs_dict PySem.F.slot_dict_get PySem.F.type_dict_get (thn (ho pins s σ H _ I h) fun u s1 ⟨x, H1, I1, rx, a, ex, d, q1⟩ => ?_)
  subst ex
  obtain rfl : u = Value.ref a := rx
  obtain ⟨t1, t2, _⟩ := isD_at I1 d
  refine ⟨t1, t2, ?_⟩
  rw [m.trees]
  refine Calls.callWith_builtin rfl (Calls.evalArgs_plain (Calls.spliced_cons (thn (he pins s1 σ H1 _ I1 q1) fun iv s2 ⟨y, H2, I2, ry, ov, g, q2⟩ => Calls.spliced_nil ?_)))
  exact d_get1 hu I2 g ry fun w' s3 I3 rw' => ⟨_, H2, I3, rw', q2⟩
end

/-! ### dict(d): a copy -/
section
variable {X : Cx} {pins : List (Addr × Obj)} {σ : St} {H : Hp} {s : Shared} {a : Addr} {kvs : List (Key × V)} {A : Around} {E : Value → Shared → Prop}
end


section
variable {X : Cx} {pins : List (Addr × Obj)} {σ : St} {H : Hp} {s : Shared} {a : Addr} {y : V} {u : Value} {A : Around} {E : Value → Shared → Prop}
end
end L2

namespace L2
open PySem PySem.Spec PyProof.Rows

section
variable {prog : Program} {w : World} {A : Around} {E : Value → Shared → Prop}
end

section
variable {X : Cx}
end
end L2

namespace L2
open PySem PySem.Spec PyProof.Rows

section
variable {X : Cx} {pins : List (Addr × Obj)} {σ : St} {H : Hp} {s : Shared} {h' : Heap}
/-- several records of ours have turned -/
theorem Inv.turnedL {t' : Nat} {ch : List Addr} (I : Inv X pins σ H s) (k : ∀ b o, b ∉ ch → s.heap.get? b = some o → h'.get? b = some o) (hf : ∀ b ∈ ch, FpOk X pins H b) : Inv X pins σ H { s with heap := h', toks := t' } := by
  have nit : ∀ b u, H b = some u → b ∉ ch := fun b u e z => by
    have q := (hf b z).1
    rw [q] at e; cases e
  refine I.step (g' := s.gens) (d' := s.drawn) (ch := ch) (fun b hb => ⟨(hf b hb).2.2.2.1, (hf b hb).2.1, (hf b hb).2.2.2.2.1, (hf b hb).2.2.2.2.2⟩) (fun b o _ _ hc e _ => k b o hc e) (fun b o _ _ hc e _ => ⟨o.slots, k b o hc e⟩)
    (fun _ _ _ _ n => n) (fun b o hc e => ⟨o, k b o hc e⟩) (fun _ _ e => e) (fun _ _ _ e => e) (fun b ps e => ⟨#[], by rw [e]; simp⟩) (fun m hm => ?_) (fun b u e => ?_) I.bare
  · obtain ⟨o, es, ep, ho, r⟩ := hm
    exact ⟨o, es, ep, k _ o (fun z => (hf _ z).2.1 rfl) ho, r⟩
  · refine (I.hok b u e).stay (fun c v hc q => k c v ?_ q) (fun _ q => q) fun _ _ q => q
    rcases hc with z | z
    · rw [z]; exact nit b u e
    · exact nit c _ z
/-- .. and one new object is laid -/
theorem Inv.turnedNew {t' : Nat} {ch : List Addr} {T : Addr} {ob : HO} (I : Inv X pins σ H s) (k : ∀ b o, b ∉ ch → s.heap.get? b = some o → h'.get? b = some o) (hf : ∀ b ∈ ch, FpOk X pins H b) (hT : s.heap.objs.size ≤ T)
    (new : ObjOk X.prog X.w (upd H T ob) h' T ob) : Inv X pins σ (upd H T ob) { s with heap := h', toks := t' } := by
  have hn : H T = none := I.hok.fresh hT
  have nit : ∀ b u, H b = some u → b ∉ ch := fun b u e z => by
    have q := (hf b z).1
    rw [q] at e; cases e
  refine I.step (g' := s.gens) (d' := s.drawn) (ch := ch) (fun b hb => ⟨(hf b hb).2.2.2.1, (hf b hb).2.1, (hf b hb).2.2.2.2.1, (hf b hb).2.2.2.2.2⟩) (fun b o _ _ hc e _ => k b o hc e) (fun b o _ _ hc e _ => ⟨o.slots, k b o hc e⟩)
    (fun b o _ e n => ?_) (fun b o hc e => ⟨o, k b o hc e⟩) (fun b xs e => ?_) (fun b o u e => ?_) (fun b ps e => ⟨#[], ?_⟩) (fun m hm => ?_) (fun b u e => ?_) I.bare
  · rw [upd_ne (Nat.ne_of_lt (Nat.lt_of_lt_of_le (Heap.lt_size e) hT))]; exact n
  · rw [upd_ne (ne_of_none e hn)]; exact e
  · rw [upd_ne (ne_of_none e hn)]; exact e
  · rw [upd_ne (ne_of_none e hn), e]; simp
  · obtain ⟨o, es, ep, ho, r⟩ := hm
    exact ⟨o, es, ep, k _ o (fun z => (hf _ z).2.1 rfl) ho, r⟩
  · by_cases hb : b = T
    · subst hb
      rw [upd_same] at e
      cases e
      exact new
    · rw [upd_ne hb] at e
      refine (I.hok b u e).stay (fun c v hc q => k c v ?_ q) (fun c q => by rw [upd_ne (ne_of_none q hn)]; exact q) fun c xs q => by rw [upd_ne (ne_of_none q hn)]; exact q
      rcases hc with z | z
      · rw [z]; exact nit b u e
      · exact nit c _ z

/-! ### locking a thing while a statement runs -/
theorem Inv.lock {d : Addr} {u : HO} (I : Inv X pins σ H s) (h : H d = some u) (mu : Mut (some u)) : ∃ od, Inv X pins σ (upd H d (.frz od u)) s := by
  have x := I.hok d u h
  have ex : ∃ od, s.heap.get? d = some od := by
    cases u with
    | lst xs => obtain ⟨_, _, _, _, e⟩ := x; exact ⟨_, e⟩
    | dK kvs => obtain ⟨_, _, _, _, o, _, _, e, _⟩ := x; exact ⟨o, e⟩
    | dT kvs => obtain ⟨_, _, _, _, o, _, _, e, _⟩ := x; exact ⟨o, e⟩
    | set S n => obtain ⟨o, _, _, _, e, _⟩ := x; exact ⟨o, e⟩
    | ins C dx fs => obtain ⟨_, _, _, e, _⟩ := x; exact ⟨_, e⟩
    | ext φ => obtain ⟨_, ⟨_, e⟩, _⟩ := x; exact ⟨_, e⟩
    | _ => exact False.elim mu
  obtain ⟨od, e⟩ := ex
  have new : ObjOk X.prog X.w (upd H d (.frz od u)) s.heap d (.frz od u) := by
    refine ⟨e, x.stay (fun b v _ q => q) (fun b q => ?_) fun b xs q => ?_⟩
    · rw [upd_ne (fun z => by rw [z, h] at q; cases q; exact mu)]; exact q
    · rw [upd_ne (fun z => by rw [z, h] at q; cases q; exact mu)]; exact q
  exact ⟨od, I.write (x := d) (e := d) (t' := s.toks) (h' := s.heap) (by rw [h]; exact mu) (.inl rfl) (fun b v _ q => q) ⟨od, e⟩ new⟩
theorem Inv.nofrz {d : Addr} {u : HO} (I : Inv X pins σ H s) (h : H d = some u) (mu : Mut (some u)) : ∀ o' u', X.H_0 d ≠ some (.frz o' u') := fun o' u' e => by
  have q := I.base.frzs d o' u' e
  rw [h] at q
  cases q
  exact mu
theorem Inv.unlock {d : Addr} {od : Obj} {u : HO} (I : Inv X pins σ H s) (h : H d = some (.frz od u)) (hn : ∀ o' u', X.H_0 d ≠ some (.frz o' u')) : Inv X pins σ (upd H d u) s := by
  have neH : ∀ b o, H b = some o → (∀ o' u', o ≠ .frz o' u') → b ≠ d := fun b o e hne z => by
    rw [z, h] at e
    cases e
    exact hne _ _ rfl
  have neN : ∀ b, H b = none → b ≠ d := fun b e z => by rw [z, h] at e; cases e
  refine ⟨I.ok, I.os, I.bare, ⟨I.base.keep, I.base.slot, fun b o e n hx => ?_, I.base.there, fun b xs e => ?_, fun b o x e => ?_, fun b ps e => ?_⟩, I.loc, I.cell, ?_, fun x c e => ?_, fun p hp => ?_, fun b o e => ?_, I.len⟩
  · rw [upd_ne (neN b (I.base.free b o e n hx))]; exact I.base.free b o e n hx
  · have q := I.base.tups b xs e
    rw [upd_ne (neH b _ q (fun _ _ z => nomatch z))]; exact q
  · have q := I.base.frzs b o x e
    rw [upd_ne (fun z => by rw [z] at e; exact hn _ _ e)]; exact q
  · obtain ⟨m, q⟩ := I.base.tbls b ps e
    exact ⟨m, by rw [upd_ne (neH b _ q (fun _ _ z => nomatch z))]; exact q⟩
  · rw [upd_ne (neN _ I.free)]; exact I.free
  · rw [upd_ne (neN c (I.freeC x c e))]; exact I.freeC x c e
  · obtain ⟨e, n, r⟩ := I.pin p hp
    exact ⟨e, by rw [upd_ne (neN _ n)]; exact n, r⟩
  · by_cases hb : b = d
    · rw [hb, upd_same] at e
      cases e
      rw [hb]
      obtain ⟨_, x⟩ := I.hok d _ h
      exact x.stay (fun c v _ q => q) (fun c q => by rw [upd_ne (neH c _ q (fun _ _ z => nomatch z))]; exact q) fun c xs q => by rw [upd_ne (neH c _ q (fun _ _ z => nomatch z))]; exact q
    · rw [upd_ne hb] at e
      exact (I.hok b o e).stay (fun c v _ q => q) (fun c q => by rw [upd_ne (neH c _ q (fun _ _ z => nomatch z))]; exact q) fun c xs q => by rw [upd_ne (neH c _ q (fun _ _ z => nomatch z))]; exact q
end
/-- the statement runs while the thing at d is locked (read, not written); d and what stands there are the reading's choice -/
def tLock (t : TS) : TS := fun D σ H => ∃ d u, H d = some u ∧ Mut (some u) ∧ ∀ od, t ⟨fun σ' H' => H' d = some (.frz od u) ∧ D.nx σ' (upd H' d u), fun v H' => H' d = some (.frz od u) ∧ D.rt v (upd H' d u), fun σ' H' => H' d = some (.frz od u) ∧ D.bk σ' (upd H' d u), fun σ' H' => H' d = some (.frz od u) ∧ D.ct σ' (upd H' d u)⟩ σ (upd H d (.frz od u))
section
variable {X : Cx}
theorem ps_lock {st : Stmt} {t : TS} (h : PS X st t) : PS X st (tLock t) := by
  intro pins s σ H D I hw
  obtain ⟨d, u, hd, mu, hw⟩ := hw
  obtain ⟨od, I1⟩ := I.lock hd mu
  refine thn (h pins s σ _ _ I1 (hw od)) fun f s1 q => ?_
  cases f with
  | next => obtain ⟨σ', H', I2, e, q⟩ := q; exact ⟨σ', _, I2.unlock e (I.nofrz hd mu), q⟩
  | brk => obtain ⟨σ', H', I2, e, q⟩ := q; exact ⟨σ', _, I2.unlock e (I.nofrz hd mu), q⟩
  | cont => obtain ⟨σ', H', I2, e, q⟩ := q; exact ⟨σ', _, I2.unlock e (I.nofrz hd mu), q⟩
  | ret v => obtain ⟨x, σ', H', I2, r, e, q⟩ := q; exact ⟨x, σ', _, I2.unlock e (I.nofrz hd mu), r, q⟩
/-! ### one iterator just laid -/
theorem pi_one {tg : Expr} {pins : List (Addr × Obj)} {σ : St} {H : Hp} {s : Shared} {R : It → Hp → Prop} {J : It} {tn : Nat → Heap → Prop} {tk : Nat} (I : Inv X pins σ H s) (o : Obj)
    (T : Turn X.prog X.w X.K tg J [s.heap.objs.size] s.heap.objs.size tn) (st : tn 0 (s.heap.push o)) (q : R J H) : PIE X pins σ tg R (.ref s.heap.objs.size) { s with heap := s.heap.push o, toks := tk } := by
  refine ⟨s.heap.objs.size, [s.heap.objs.size], tn, J, H, rfl, I.kept fun b ob e => Heap.get?_push_of_some _ e, T, st, fun b hb => ?_, q⟩
  have e : b = s.heap.objs.size := by simpa using hb
  subst e
  exact I.fpOk (Nat.le_refl _) (I.hok.fresh (Nat.le_refl _))
end

/-! ### range with a step -/
section
variable {X : Cx} {tg : Expr}
end
/-! ### reversed(list) -/
section
variable {X : Cx} {tg : Expr}
end

/-! ### a str -/
/-! ### a dict's keys: any dict's entries -/
section
variable {prog : Program} {w : World} {A : Around} {E : Value → Shared → Prop} {s : Shared}
end

/-! ### a locked dict -/
theorem kv_get {κ : Type} {kvs : List (κ × V)} {vs : List (κ × Value)} (h : KV kvs vs) : ∀ {i : Nat} {k : κ} {v : V}, kvs[i]? = some (k, v) → ∃ u, vs[i]? = some (k, u) ∧ RelV v u := by
  unfold KV at h
  induction h with
  | nil => intro i k v e; simp at e
  | @cons a b l₁ l₂ r t ih =>
    intro i k v e
    cases i with
    | zero =>
      simp only [List.getElem?_cons_zero, Option.some.injEq] at e
      subst e
      refine ⟨b.2, ?_, r.2⟩
      simp only [List.getElem?_cons_zero]
      exact congrArg some (Prod.ext r.1.symm rfl)
    | succ j =>
      simp only [List.getElem?_cons_succ] at e ⊢
      exact ih e
theorem relV_key {k : Key} {u : Value} (h : keyIs k u = true) : RelV (kV k) u := by
  rcases keyIs_shape h with ⟨i, t, rfl, rfl⟩ | ⟨x, t, rfl, rfl⟩
  · exact ⟨t, rfl⟩
  · exact ⟨t, rfl⟩
section
variable {X : Cx} {pins : List (Addr × Obj)} {σ : St} {H : Hp} {s : Shared} {d : Addr} {o : Obj}
theorem Inv.frzK {kvs : List (Key × V)} (I : Inv X pins σ H s) (h : H d = some (.frz o (.dK kvs))) :
    (d == sysModules) = false ∧ s.heap.get? d = some o ∧ o.ExactDict ∧ ∃ (es : Array DictEntry) (ep : Nat) (vs : List (Key × Value)), o.data = .dict es ep ∧ es.size = kvs.length ∧ KV kvs vs ∧ s.heap.DictAt (mixKind X.prog X.w) d vs ep := by
  obtain ⟨hd, z, hs, vs, kv, o', es, ep, ho, hx, hdt, r⟩ := I.hok d _ h
  rw [hd] at ho
  cases ho
  refine ⟨hs, hd, hx, es, ep, vs, hdt, ?_, kv, o, es, hd, hx, hdt, r⟩
  have l1 := r.2.1.length
  have l2 : kvs.length = vs.length := Paired.length kv
  rw [Array.length_toList] at l1
  omega
end

/-- the pairs, each a new tuple -/
def Iti (d : Addr) (o : Obj) (kvs : List (Key × V)) : It :=
  ⟨fun i H => H d = some (.frz o (.dK kvs)) ∧ i < kvs.length, fun i H x H' => ∃ T k v, kvs[i]? = some (k, v) ∧ x = .ref T ∧ H T = none ∧ H' = upd H T (.tup [kV k, v]), fun i H => H d = some (.frz o (.dK kvs)) ∧ kvs.length ≤ i⟩
theorem dict_ep {o : Obj} {es es' : Array DictEntry} {ep ep' : Nat} (h : o.data = .dict es ep) (h' : o.data = .dict es' ep') : es' = es ∧ ep' = ep := by
  rw [h] at h'
  cases h'
  exact ⟨rfl, rfl⟩
section
variable {P : Program} {w : World} {K : PySem.W.Frag} {tg : Expr} {d : Addr} {o : Obj} {es : Array DictEntry} {ep : Nat}
theorem turn_items {kvs : List (Key × V)} {elts : List Expr} {kk : Nat} {tpos : Pos} (it : Addr) (hod : o.data = .dict es ep) :
    Turn P w K (.Tuple elts kk tpos) (Iti d o kvs) [it] it (fun i h => ∃ ok ov, IsItemIter h it d i kvs.length ep ok ov) where
  mem := by simp
  obj := fun i h st b hb => by
    have e : b = it := by simpa using hb
    subst e
    obtain ⟨ok, ov, e⟩ := st
    exact ⟨_, e, fun v z => nomatch z⟩
  keep := fun i h h' st k => let ⟨ok, ov, e⟩ := st; ⟨ok, ov, k it (by simp) _ e⟩
  item := by
    intro X hP hw hK hc i pins s σ H E I hf st hg
    subst hP hw hK
    obtain ⟨hd, hi⟩ := hg
    obtain ⟨hs, hgd, hx, es', ep', vs, hdt, hsz, kv, hm⟩ := I.frzK hd
    obtain ⟨rfl, rfl⟩ := dict_ep hod hdt
    obtain ⟨⟨k, v⟩, hkv⟩ : ∃ p, kvs[i]? = some p := ⟨kvs[i], List.getElem?_eq_getElem hi⟩
    obtain ⟨u, hu, ru⟩ := kv_get kv hkv
    have hl : kvs.length = vs.length := Paired.length kv
    obtain ⟨ok, ov, he⟩ := st
    rw [hl] at he
    have hlt : it < s.heap.objs.size := Heap.lt_size he
    refine wpAny_pyNext_items_item he hm hu fun key h' hkey ho hT hz hk => ?_
    refine ⟨_, rfl, wpAny_letOwnedTupleGo_items (s := { s with heap := h' }) ho fun h'' he' sb => ?_⟩
    have hT2 : h''.get? s.heap.objs.size = some { cls := .type "tuple", data := .seq #[key, u] } := (sb.2 _ (Nat.ne_of_gt hlt)).trans hT
    have new : ObjOk X.prog X.w (upd H s.heap.objs.size (.tup [kV k, v])) h'' s.heap.objs.size (.tup [kV k, v]) :=
      ⟨by show 2 ≤ sizeLine; decide, [key, u], .cons (relV_key (show keyIs k key = true from hkey)) (.cons ru .nil), ⟨_, hT2, rfl, _, rfl⟩⟩
    have I1 : Inv X pins σ (upd H s.heap.objs.size (.tup [kV k, v])) { s with heap := h'' } :=
      I.turnedNew (t' := s.toks) (ch := [it]) (fun b ob hb e => (sb.2 b (by simpa using hb)).trans (hk b ob (by simpa using hb) e)) hf (Nat.le_refl _) new
    refine ⟨.ref s.heap.objs.size, _, I1, rfl, ⟨_, k, v, hkv, rfl, I.hok.fresh (Nat.le_refl _), rfl⟩, ⟨key, u, ?_⟩, fun b hb => ?_⟩
    · rw [hl]; exact he'
    · have e : b = it := by simpa using hb
      rw [e, upd_ne (Nat.ne_of_lt hlt)]
      exact (hf it (by simp)).1
  done := by
    intro X hP hw hK hc i pins s σ H E I hf st hg
    subst hP hw hK
    obtain ⟨hd, hi⟩ := hg
    obtain ⟨f0, f1, f2, f3, f4, f5⟩ := hf it (by simp)
    obtain ⟨hs, hgd, hx, es', ep', vs, hdt, hsz, kv, hm⟩ := I.frzK hd
    obtain ⟨rfl, rfl⟩ := dict_ep hod hdt
    have hl : kvs.length = vs.length := Paired.length kv
    obtain ⟨ok, ov, he⟩ := st
    rw [hl] at he
    exact wpAny_pyNext_items_end (I.ok.hd hc) he hm (List.getElem?_eq_none (by omega)) fun h' eb => ⟨rfl, I.turned (t' := s.toks) (fun b ob hb e => eb b ob hb e) f0 f1 f3 f4 f5⟩
  self := fun A i s Q E st h => let ⟨_, _, e⟩ := st; PySem.W.kcp_self e h
end

/-! ### for k in d, d.keys(), d.values(), d.items() -/
def iItems (td : TE) : TI := fun σ H R => td σ H fun x H1 => ∃ d o kvs, x = .ref d ∧ H1 d = some (.frz o (.dK kvs)) ∧ R (Iti d o kvs) H1
section
variable {X : Cx} {tg e : Expr} {td : TE} {apos cpos : Pos}
theorem pi_items {elts : List Expr} {kk : Nat} {tpos : Pos} (he : PE X e td) (hbase : attributeBase e "items" X.env (eval e X.env) = eval e X.env := by rfl) (hline : (apos.endLine == cpos.line) = true := by rfl) :
    PI X (.Tuple elts kk tpos) (.Call (.Attribute e "items" apos) [] [] cpos) (iItems td) := by
  intro pins s σ H R I h
  refine wpAny_Call_method (T := "dict") (id := "dict.items") hbase rfl hline F.plainAttrs_dict F.slot_dict_items F.type_dict_items (thn (he pins s σ H _ I h) fun u s1 ⟨x, H1, I1, rx, d, o, kvs, ex, hd, q⟩ => ?_)
  subst ex
  obtain rfl : u = Value.ref d := rx
  obtain ⟨hs, hgd, hx, es, ep, vs, hdt, hsz, kv, hm⟩ := I1.frzK hd
  have hl : kvs.length = vs.length := Paired.length kv
  refine ⟨hm.dictOf.typeIs, hm.dictOf.mapOf.noDict, ?_⟩
  have I2 : Inv X pins σ H1 { s1 with heap := s1.heap.push { cls := .type "dict_items", data := .fields #[.ref d] } } := I1.kept (t' := s1.toks) fun b ob q => Heap.get?_push_of_some _ q
  have fin : wpAny (model X.prog X.w) X.A (pyIter (.ref s1.heap.objs.size)) (PIE X pins σ (.Tuple elts kk tpos) R) X.xe { s1 with heap := s1.heap.push { cls := .type "dict_items", data := .fields #[.ref d] } } := by
    refine wpAny_pyIter_items (d := d) (knd := mixKind X.prog X.w) ⟨_, Heap.get?_push_size _ rfl, rfl, rfl⟩ (hm.push _) (pi_one (tk := s1.toks) I2 _ (turn_items _ hdt) ⟨.none, .none, ?_⟩ q)
    rw [hl]
    exact Heap.get?_push_size _ rfl
  show wpAny _ _ (callWith cpos (.builtin "dict.items") [.ref d] [] []) _ X.xe s1
  exact method_meetsIn F.slot_dict_items F.entry_dict_items rfl (PySem.evalArgs_none ⟨rfl, hm.dictOf.typeIs, F.args_dict_items_1 _, _, meets_dict_items (mixKind X.prog X.w) d hs, ⟨vs, hm.dictOf⟩, fin⟩)
end

/-! ### enumerate(list) -/
/-! ### zip(list, list) -/
theorem boot_zip5 : bootBuiltins "zip" = some (.type "zip") := by decide +kernel
/-- the lists at a and b as they stand at each turn, the items in new pairs -/
def Itz (K : PySem.W.Frag) (a b : Addr) : It :=
  ⟨fun i H => ∃ (xs ys : List V) (x y : V), SqL K H a xs ∧ SqL K H b ys ∧ xs[i]? = some x ∧ ys[i]? = some y,
    fun i H v H' => ∃ T x y, v = .ref T ∧ H T = none ∧ H' = upd H T (.tup [x, y]) ∧ (∀ xs, SqL K H a xs → xs[i]? = some x) ∧ ∀ ys, SqL K H b ys → ys[i]? = some y,
    fun i H => ∃ xs ys : List V, SqL K H a xs ∧ SqL K H b ys ∧ (xs.length ≤ i ∨ ys.length ≤ i)⟩
theorem turn_zip {P : Program} {w : World} {K : PySem.W.Frag} {elts : List Expr} {kk : Nat} {tpos : Pos} {a b z TI TO i1 i2 : Addr} (D : ZipApart z TI TO i1 i2 a b) :
    Turn P w K (.Tuple elts kk tpos) (Itz K a b) [z, TI, TO, i1, i2] z (fun i h => IsZip h z TI TO .none ∧ IsPair h TI (.ref i1) (.ref i2) ∧ (∃ x y, IsPair h TO x y) ∧ h.IsListIter i1 a i ∧ h.IsListIter i2 b i) where
  mem := by simp
  obj := fun i h st c hc => by
    obtain ⟨hz, hTI, ⟨x, y, hTO⟩, ⟨o1, e1, _, d1⟩, ⟨o2, e2, _, d2⟩⟩ := st
    have e' : c = z ∨ c = TI ∨ c = TO ∨ c = i1 ∨ c = i2 := by simpa using hc
    rcases e' with q | q | q | q | q
    · rw [q]; exact ⟨_, hz, fun v q => nomatch q⟩
    · rw [q]; exact ⟨_, hTI, fun v q => nomatch q⟩
    · rw [q]; exact ⟨_, hTO, fun v q => nomatch q⟩
    · rw [q]; exact ⟨o1, e1, fun v q => by rw [d1] at q; cases q⟩
    · rw [q]; exact ⟨o2, e2, fun v q => by rw [d2] at q; cases q⟩
  keep := fun i h h' st k => by
    obtain ⟨hz, hTI, ⟨x, y, hTO⟩, h1, h2⟩ := st
    exact ⟨k z (by simp) _ hz, k TI (by simp) _ hTI, ⟨x, y, k TO (by simp) _ hTO⟩, h1.at fun o q => k i1 (by simp) o q, h2.at fun o q => k i2 (by simp) o q⟩
  item := by
    intro X hP hw hK hc i pins s σ H E I hf st hg
    subst hP hw hK
    obtain ⟨hz, hTI, ⟨x0, y0, hTO⟩, h1, h2⟩ := st
    obtain ⟨xs, ys, x, y, hqx, hqy, hx, hy⟩ := hg
    obtain ⟨its, rv, p, _⟩ := I.list hqx
    obtain ⟨its2, rv2, p2, _⟩ := I.list hqy
    obtain ⟨u, hu, ru⟩ := rv.get hx
    obtain ⟨u2, hu2, ru2⟩ := rv2.get hy
    have hzl : z < s.heap.objs.size := Heap.lt_size hz
    refine wpAny_pyNext_zip_item D hz hTI hTO h1 h2 p.isList p2.isList (x := u) (y := u2) (by simpa using hu) (by simpa using hu2) fun h' z' TO' h1' h2' hT hsz hk => ?_
    refine ⟨_, rfl, wpAny_letOwnedTupleGo_zip (s := { s with heap := h' }) z' fun h'' z'' sb => ?_⟩
    have hT2 : h''.get? s.heap.objs.size = some { cls := .type "tuple", data := .seq #[u, u2] } := (sb.2 _ (Nat.ne_of_gt hzl)).trans hT
    have new : ObjOk X.prog X.w (upd H s.heap.objs.size (.tup [x, y])) h'' s.heap.objs.size (.tup [x, y]) :=
      ⟨by show 2 ≤ sizeLine; decide, [u, u2], .cons ru (.cons ru2 .nil), ⟨_, hT2, rfl, _, rfl⟩⟩
    have I1 : Inv X pins σ (upd H s.heap.objs.size (.tup [x, y])) { s with heap := h'' } :=
      I.turnedNew (t' := s.toks) (ch := [z, TI, TO, i1, i2]) (fun c o hb q => (sb.2 c (fun q' => hb (by simp [q']))).trans (hk c o (fun q' => hb (by simp [q'])) (fun q' => hb (by simp [q'])) (fun q' => hb (by simp [q'])) (fun q' => hb (by simp [q'])) q)) hf (Nat.le_refl _) new
    refine ⟨.ref s.heap.objs.size, _, I1, rfl, ⟨_, x, y, rfl, I.hok.fresh (Nat.le_refl _), rfl, fun l hl => by rw [I.list_inj hl hqx]; exact hx, fun l hl => by rw [I.list_inj hl hqy]; exact hy⟩, ⟨z'', ?_, ⟨u, u2, ?_⟩, ?_, ?_⟩, fun c hcm => ?_⟩
    · exact (sb.2 _ D.TIz).trans (hk _ _ D.TIz D.TITO D.TIi1 D.TIi2 hTI)
    · exact (sb.2 _ D.TOz).trans TO'
    · exact h1'.at fun o q => (sb.2 _ D.i1z).trans q
    · exact h2'.at fun o q => (sb.2 _ D.i2z).trans q
    · have hlt : c < s.heap.objs.size := by
        have e' : c = z ∨ c = TI ∨ c = TO ∨ c = i1 ∨ c = i2 := by simpa using hcm
        rcases e' with q | q | q | q | q
        · rw [q]; exact hzl
        · rw [q]; exact Heap.lt_size hTI
        · rw [q]; exact Heap.lt_size hTO
        · rw [q]; obtain ⟨_, e1, _⟩ := h1; exact Heap.lt_size e1
        · rw [q]; obtain ⟨_, e2, _⟩ := h2; exact Heap.lt_size e2
      rw [upd_ne (Nat.ne_of_lt hlt)]
      exact (hf c hcm).1
  done := by
    intro X hP hw hK hc i pins s σ H E I hf st hg
    subst hP hw hK
    obtain ⟨hz, hTI, ⟨x0, y0, hTO⟩, h1, h2⟩ := st
    obtain ⟨xs, ys, hqx, hqy, hend⟩ := hg
    obtain ⟨its, rv, p, _⟩ := I.list hqx
    obtain ⟨its2, rv2, p2, _⟩ := I.list hqy
    have l1 := rv.length
    have l2 := rv2.length
    have he : its.toArray[i]? = none ∨ its2.toArray[i]? = none := by
      rcases hend with q | q
      · exact .inl (by simp; omega)
      · exact .inr (by simp; omega)
    exact wpAny_pyNext_zip_end (I.ok.hd hc) D hz hTI hTO h1 h2 p.isList p2.isList he fun h' hk => ⟨rfl, I.turnedL (t' := s.toks) (ch := [z, TI, TO, i1, i2]) (fun c o hb q =>
      hk c o (fun q' => hb (by simp [q'])) (fun q' => hb (by simp [q'])) (fun q' => hb (by simp [q'])) (fun q' => hb (by simp [q'])) q) hf⟩
  self := fun A i s Q E st h => wpAny_pyIter_zip st.1 h
def iZip (K : PySem.W.Frag) (ta : TA) : TI := fun σ H R => ta σ H fun vs H1 => ∃ a b xs ys, vs = [.ref a, .ref b] ∧ SqL K H1 a xs ∧ SqL K H1 b ys ∧ R (Itz K a b) H1
theorem pi_zip {X : Cx} {e e2 : Expr} {ta : TA} {p pos tpos : Pos} {elts : List Expr} {kk : Nat} (hg : Gl X "zip") (hm : X.mg "zip" = none) (ha : PA X [e, e2] ta)
    (hs : starEach [e, e2] X.env = (false, eval e X.env) :: starEach [e2] X.env := by rfl) (hpl : (backTo pos (starEach [e2] X.env)).any (·.1) = false := by rfl) :
    PI X (.Tuple elts kk tpos) (.Call (.Name "zip" p) [e, e2] [] pos) (iZip X.K ta) := by
  intro pins s σ H R I h
  refine Call_ (ld_blt I hg hm boot_zip5 (PyProof.Rows.callWith_type1 (thn (ha pos pins s σ H _ I h) fun us s1 ⟨vs, H1, I1, r1, q1⟩ => ?_) hs hpl))
  obtain ⟨a, b, xs, ys, ex, hqx, hqy, q⟩ := q1
  subst ex
  cases r1 with
  | cons r rr =>
    cases rr with
    | cons r' rr =>
      cases rr
      cases r
      cases r'
      obtain ⟨its, rv, p1, _⟩ := I1.list hqx
      obtain ⟨its2, rv2, p2, _⟩ := I1.list hqy
      have la : a < s1.heap.objs.size := p1.lt
      have lb : b < s1.heap.objs.size := p2.lt
      refine call_zip_2 p1.isList p2.isList fun h' hz hTI hTO h1 h2 hsz hk => wpAny_pyIter_zip hz ?_
      have I2 : Inv X pins σ H1 { s1 with heap := h' } := I1.kept (t' := s1.toks) hk
      refine ⟨s1.heap.objs.size + 4, [s1.heap.objs.size + 4, s1.heap.objs.size + 2, s1.heap.objs.size + 3, s1.heap.objs.size, s1.heap.objs.size + 1], _, _, H1, rfl, I2, turn_zip (PySem.W.ktu_apart s1.heap.objs.size a b la lb), ⟨hz, hTI, ⟨_, _, hTO⟩, h1, h2⟩, fun c hcm => ?_, q⟩
      have e' : c = s1.heap.objs.size + 4 ∨ c = s1.heap.objs.size + 2 ∨ c = s1.heap.objs.size + 3 ∨ c = s1.heap.objs.size ∨ c = s1.heap.objs.size + 1 := by simpa using hcm
      have hle : s1.heap.objs.size ≤ c := by
        rcases e' with z | z | z | z | z
        · rw [z]; exact Nat.le_add_right _ _
        · rw [z]; exact Nat.le_add_right _ _
        · rw [z]; exact Nat.le_add_right _ _
        · rw [z]; exact Nat.le_refl _
        · rw [z]; exact Nat.le_add_right _ _
      exact I1.fpOk hle (I1.hok.fresh hle)
end L2

section 
namespace Bits
open PySem PyProof.Rows

end Bits
end 

section 
namespace TL
open PySem PySem.Builtin PySem.Builtin.Str PySem.StrLaws

/-! ### the list functions -/
/-! ### the model's split and partition are these -/
/-! ### computing spl and par -/
/-! ### digits -/
/-! ### words: x.split() -/
end TL
end 

namespace L2
open PySem PySem.Spec PyProof.Rows

section
variable {X : Cx} {pins : List (Addr × Obj)} {σ : St} {H : Hp} {s : Shared} {Q : VK}
end

section
variable {X : Cx}

/-! ### of a text alone -/
/-! ### of a text and a text -/
end

section
variable {X : Cx} {o e : Expr} {to te : TE}
end
end L2

namespace L2
open PySem PySem.Spec PyProof.Rows

section
variable {X : Cx}
end

/-! ### slices of a text -/
end L2

namespace Att
open PySem PySem.W PySem.Calls PyProof.Rows

/-! ### the script -/
/-! ### the attachment: holds_open's last premise (the goal 'hc' behind k_head) from a wpAny of the law's body -/
/-! ### rules over ANY heap (no ledger) from facts about the written part K: the library's own take a ledger (News) for what they write -/
section
variable {prog : Program} {w : World} {A : Around} {E : Value → Shared → Prop} {s : Shared} {K : Frag}

/-! the whole heap as the ledger: makes every rule that writes through a ledger a rule over any heap -/
end
end Att

namespace L2
open PySem PySem.Spec PyProof.Rows

end L2

namespace L2
open PySem PySem.Spec PyProof.Rows

end L2


/-! SHORT WORDS over the layer: a def of the text, its body, what a loop and a test want. -/
namespace L2
open PySem PySem.Spec PyProof.Rows

/-! ### the text by places -/
/-- the j-th statement of a class's body -/
def inClass (s : Stmt) (j : Nat) : Stmt := match s with
  | .ClassDef _ _ _ body _ _ _ _ _ _ _ => body.getD j (.Pass ⟨0, 0, 0, 0⟩)
  | _ => .Pass ⟨0, 0, 0, 0⟩
def defArgs (s : Stmt) : Arguments := match s with
  | .FunctionDef _ a _ _ _ _ _ _ _ _ => a
  | _ => { posonlyargs := [], args := [], vararg := none, kwonlyargs := [], kw_defaults := [], kwarg := none, defaults := [] }
def defBody (s : Stmt) : List Stmt := match s with
  | .FunctionDef _ _ b _ _ _ _ _ _ _ => b
  | _ => []
def defScope (s : Stmt) : Scope := match s with
  | .FunctionDef _ _ _ _ _ _ sc _ _ _ => sc
  | _ => { kind := .function, names := [], isGenerator := false, isCoroutine := false }

/-! ### no exception leaves a def -/
abbrev CX0 : CXT := fun _ _ _ _ _ _ => False
abbrev E0 : XK := fun _ _ _ => False
theorem pass0 {X : Cx} : Passes CX0 X E0 := fun _ _ _ _ _ _ _ h => h.elim

/-! ### a def (or method) of the text as it stands behind the top -/
structure Fun (K : PySem.W.Frag) (x qual : Str) (st : Stmt) (f : Addr) (fd : FuncData) : Prop where
  ex : ∃ (oc : Value) (od : Option Addr) (kV doc pm : Value) (an : Option Addr) (cdv ct : Value) (osl : Array (Option Value)),
    fd = PySem.W.fnOf x qual (defArgs st) (defBody st) (defScope st) .none kV doc pm an cdv ct ∧ K.lookup f = some ⟨oc, od, .func fd, osl⟩ ∧ PySem.W.codeIn K cdv qual = true
  kp : PySem.W.keepIn K (.ref f) = true
section
variable {P : Program} {w : World} {K : PySem.W.Frag} {mg : Str → Option Value} {base : Heap}
/-- THE RULE for a def: its body as a term of rules, and the reading of that term -/
theorem Fun.ok {x qual : Str} {st : Stmt} {f : Addr} {fd : FuncData} {N ps : List Str} {k : Nat} {sp : Sp} (F : Fun K x qual st f fd) (S : FnScope N ps (defScope st)) (len : ∀ vs H Q E, sp vs H Q E → vs.length = ps.length)
    (hbody : ∀ (cdv : Value) (A : Around) (outer : List Env) (s : Shared) (H : Hp) (vs : List V) (Q : VK) (E : XK), Room k (A.deeper (envOfC qual (defScope st) s.heap.objs.size f cdv)) → sp vs H Q E →
      ∃ t, PSs (cxOf CX0 P w K mg base N qual (defScope st) f cdv A outer s H E).nox (defBody st) t ∧ t { nx := fun _ H' => Q .non H', rt := Q } (start N vs) H) : FnOk P w K mg base CX0 (k + 1) f fd ps sp := by
  obtain ⟨oc, od, kV, doc, pm, an, cdv, ct, osl, rfl, lk, hcd⟩ := F.ex
  refine fn_of lk hcd S len fun A outer s H vs Q E hr hsp => ?_
  obtain ⟨t, h, q⟩ := hbody cdv A outer s H vs Q E hr hsp
  exact ⟨t, h.nox, q⟩
/-- how its arguments bind (no defaults): h is «fun _ _ _ _ _ _ us hl => match us, hl with | [_, _], _ => rfl», one _ a parameter -/
theorem Fun.binds {x qual : Str} {st : Stmt} {f : Addr} {fd : FuncData} {ps : List Str} (F : Fun K x qual st f fd)
    (h : ∀ (kV doc pm : Value) (an : Option Addr) (cdv ct : Value) (us : List Value), us.length = ps.length → bindArgs (PySem.W.fnOf x qual (defArgs st) (defBody st) (defScope st) .none kV doc pm an cdv ct) ⟨us, []⟩ = pure (ps.zip us)) : Binds K fd ps [] := by
  obtain ⟨oc, od, kV, doc, pm, an, cdv, ct, osl, rfl, lk, hcd⟩ := F.ex
  exact .all (h kV doc pm an cdv ct)
theorem fun_mk {x qual : Str} {st : Stmt} {f : Addr} {oc : Value} {od an : Option Addr} {osl : Array (Option Value)} {kV doc pm cdv ct : Value} (l : K.lookup f = some ⟨oc, od, .func (PySem.W.fnOf x qual (defArgs st) (defBody st) (defScope st) .none kV doc pm an cdv ct), osl⟩)
    (c : PySem.W.codeIn K cdv qual = true) (k : PySem.W.keepIn K (.ref f) = true) : Fun K x qual st f (PySem.W.fnOf x qual (defArgs st) (defBody st) (defScope st) .none kV doc pm an cdv ct) := ⟨⟨oc, od, kV, doc, pm, an, cdv, ct, osl, rfl, l, c⟩, k⟩
end
theorem hu_of {A : Around} {k : Nat} (hr : Room k A) : A.units + 1 < cLine := Nat.lt_of_le_of_lt (Nat.add_le_add_left (by decide : 1 ≤ 64) _) hr.units
theorem small1000 {n : Nat} (h : n ≤ 1000) : n < sizeLine := Nat.lt_of_le_of_lt h (by decide)

/-! ### expressions in short: the name that stands in the i-th slot -/
section
variable {X : Cx}
theorem pv (i : Nat) {x : Str} {pos : Pos} (hN : X.N[i]? = some x := by rfl) (hv : Vis X.env.scope x := by first | exact Or.inl rfl | exact Or.inr (Or.inl rfl) | exact Or.inr (Or.inr rfl)) (hd : (x == ("__debug__" : Str)) = false := by decide)
    (hcd : (x == ("__classdict__" : Str)) = false := by decide) : PE X (.Name x pos) (tVar i) := pe_var hN hv hd hcd
/-- len of a dict -/
theorem call_lenD : CallR X (.builtin "len") (fun xs H Q => ∃ a kvs, xs = [V.ref a] ∧ H a = some (.dK kvs) ∧ Q (.int kvs.length) H) := by
  intro pins s σ H xs us Q I r h
  obtain ⟨a, kvs, rfl, ha, q⟩ := h
  obtain ⟨u, rfl, ru⟩ := vals1 r
  cases ru
  exact d_len I (.inl ha) fun t s' I' => ⟨.int kvs.length, H, I', ⟨t, rfl⟩, q⟩
end

/-! ### tests -/
theorem ite2 {c A B : Prop} [Decidable c] (h1 : c → A) (h2 : ¬ c → B) : if c then A else B := by
  by_cases h : c
  · rw [if_pos h]
    exact h1 h
  · rw [if_neg h]
    exact h2 h
/-! ### heaps -/
/-- all that was tracked is as it was -/
def Same (H H' : Hp) : Prop := ∀ b o, H b = some o → H' b = some o
theorem Same.refl (H : Hp) : Same H H := fun _ _ h => h
theorem Same.trans {H H1 H2 : Hp} (a : Same H H1) (b : Same H1 H2) : Same H H2 := fun c o h => b c o (a c o h)
theorem Same.free {H H' : Hp} (e : Same H H') {l : Addr} (h : H' l = Option.none) : H l = Option.none := by
  cases q : H l with
  | none => rfl
  | some o =>
    rw [e l o q] at h
    cases h
theorem Same.seq {K : PySem.W.Frag} {H H' : Hp} {a : Addr} {xs : List V} (e : Same H H') (h : SqL K H a xs) : SqL K H' a xs := by
  rcases h with (h | ⟨o, h⟩) | h
  · exact .inl (.inl (e _ _ h))
  · exact .inl (.inr ⟨o, e _ _ h⟩)
  · exact .inr h

/-! ### a dict's pairs: keys that differ -/
section
variable {κ : Type} [DecidableEq κ]
theorem valV_not {kvs : List (κ × V)} {k : κ} (h : valV kvs k = none) : ¬ k ∈ kvs.map (·.1) := by
  intro m
  obtain ⟨p, hp, e⟩ := List.mem_map.mp m
  have q : (kvs.any fun kv => decide (kv.1 = k)) = true := List.any_eq_true.mpr ⟨p, hp, decide_eq_true e⟩
  rw [valV_any, h] at q
  exact absurd q (by simp)
theorem nd_snoc : ∀ {l : List κ} {k : κ}, l.Nodup → ¬ k ∈ l → (l ++ [k]).Nodup
  | [], k, _, _ => by simp
  | a :: r, k, h, hk => by
    obtain ⟨h1, h2⟩ := List.nodup_cons.mp h
    show (a :: (r ++ [k])).Nodup
    refine List.nodup_cons.mpr ⟨fun m => ?_, nd_snoc h2 fun m => hk (List.mem_cons.mpr (Or.inr m))⟩
    rcases List.mem_append.mp m with q | q
    · exact h1 q
    · exact hk (List.mem_cons.mpr (Or.inl (List.mem_singleton.mp q).symm))
theorem nd_putK {kvs : List (κ × V)} {k : κ} (v : V) (hn : (kvs.map (·.1)).Nodup) (h : valV kvs k = none) : ((putK kvs k v).map (·.1)).Nodup := by
  rw [putK_new v h, List.map_append]
  exact nd_snoc hn (valV_not h)
end
/-! ### lists -/
theorem nd_ix {α : Type} {l : List α} (hN : l.Nodup) {i j : Nat} {x : α} (a : l[i]? = some x) (b : l[j]? = some x) : i = j := by
  obtain ⟨h1, e1⟩ := List.getElem?_eq_some_iff.mp a
  obtain ⟨h2, e2⟩ := List.getElem?_eq_some_iff.mp b
  exact (List.getElem_inj hN).mp (e1.trans e2.symm)
end L2

section
set_option Elab.async false
set_option linter.all false
set_option maxRecDepth 100000
set_option maxHeartbeats 2000000
namespace L2
open PySem PySem.Spec PyProof.Rows
open PySem.W (WData Codec OpenSpec Well WellAll ReadsW ReadsAllW)
/-! ### an answer as data -/
mutual
/-- x stands for the datum d, lists and tuples all the way -/
inductive Dw (K : PySem.W.Frag) (H : Hp) : V → WData → Prop
  | non : Dw K H .non .none
  | bl (b : Bool) : Dw K H (.bl b) (.bool b)
  | int (i : Int) : Dw K H (.int i) (.int i)
  | str (x : Str) : Dw K H (.str x) (.str x)
  | byt (b : Array UInt8) : Dw K H (.byt b) (.bytes b.toList)
  | lst {a : Addr} {xs : List V} {ds : List WData} : SqL K H a xs → DwAll K H xs ds → Dw K H (.ref a) (.list ds)
  | tup {a : Addr} {xs : List V} {ds : List WData} : SqT K H a xs → DwAll K H xs ds → Dw K H (.ref a) (.tuple ds)
inductive DwAll (K : PySem.W.Frag) (H : Hp) : List V → List WData → Prop
  | nil : DwAll K H [] []
  | cons {v : V} {vs : List V} {d : WData} {ds : List WData} : Dw K H v d → DwAll K H vs ds → DwAll K H (v :: vs) (d :: ds)
end
theorem dw_ints {K : PySem.W.Frag} {H : Hp} : ∀ ns : List Int, DwAll K H (ns.map V.int) (ns.map WData.int)
  | [] => .nil
  | n :: r => .cons (.int n) (dw_ints r)
theorem ints_dw {K : PySem.W.Frag} {H : Hp} : ∀ (ns : List Int) (xs : List V), DwAll K H xs (ns.map WData.int) → xs = ns.map V.int
  | [], xs, h => by
    cases h
    rfl
  | n :: r, xs, h => by
    cases h with
    | cons h1 h2 =>
      cases h1
      rw [ints_dw r _ h2] <;> rfl
section
variable {P : Program} {w : World} {K : PySem.W.Frag} {H : Hp} {h : Heap} {R : PySem.W.WRecords} {cl : Str → Option Addr}
theorem sqL_at {a : Addr} {xs : List V} (hok : HOk P w H h) (KX : K.In h) (q : SqL K H a xs) : ∃ (its : List Value) (o : Obj) (n : Nat), Vals xs its ∧ h.get? a = some o ∧ o.cls = .type "list" ∧ o.data = .seq its.toArray n := by
  rcases q with q | ⟨o, its, n, e, hc, _, hd, _, hv⟩
  · obtain ⟨_, its, n, hv, e⟩ := (show ObjOk P w H h a (.lst xs) from q.ok hok)
    exact ⟨its, _, n, hv, e, rfl, rfl⟩
  · exact ⟨its.toList, o, n, hv, KX _ _ e, hc, by simp [hd]⟩
theorem sqT_at {a : Addr} {xs : List V} (hok : HOk P w H h) (KX : K.In h) (q : SqT K H a xs) : ∃ (its : List Value) (o : Obj) (n : Nat), Vals xs its ∧ h.get? a = some o ∧ o.cls = .type "tuple" ∧ o.data = .seq its.toArray n := by
  rcases q with q | ⟨o, its, n, e, hc, hd, _, hv⟩
  · obtain ⟨_, its, hv, o, e, hc, n, hd⟩ := (show ObjOk P w H h a (.tup xs) from q.ok hok)
    exact ⟨its, o, n, hv, e, hc, hd⟩
  · exact ⟨its.toList, o, n, hv, KX _ _ e, hc, by simp [hd]⟩
mutual
theorem Dw.reads (hok : HOk P w H h) (KX : K.In h) : ∀ (d : WData) (v : V) (u : Value), Dw K H v d → RelV v u → ∃ as, ReadsW R cl h u d as
  | .none, _, _, x, r => by
    cases x
    cases r
    exact ⟨_, ReadsW.none⟩
  | .bool b, _, _, x, r => by
    cases x
    cases r
    exact ⟨_, ReadsW.bool b⟩
  | .int i, _, _, x, r => by
    cases x
    obtain ⟨t, rfl⟩ := r
    exact ⟨_, ReadsW.int i t⟩
  | .str s, _, _, x, r => by
    cases x
    obtain ⟨t, rfl⟩ := r
    exact ⟨_, ReadsW.str s t⟩
  | .bytes b, _, _, x, r => by
    cases x
    obtain ⟨t, rfl⟩ := r
    exact ⟨_, ReadsW.bytes _ t⟩
  | .list ds, _, _, x, r => by
    cases x with
    | lst hs ha =>
      cases r
      obtain ⟨its, o, n, rv, ho, hc, hd⟩ := sqL_at hok KX hs
      obtain ⟨as, hr⟩ := Dw.readsAll hok KX ds _ its ha rv
      exact ⟨_, ReadsW.list ho hc hd hr⟩
  | .tuple ds, _, _, x, r => by
    cases x with
    | tup hs ha =>
      cases r
      obtain ⟨its, o, n, rv, ho, hc, hd⟩ := sqT_at hok KX hs
      obtain ⟨as, hr⟩ := Dw.readsAll hok KX ds _ its ha rv
      exact ⟨_, ReadsW.tuple ho hc hd hr⟩
  | .float _, _, _, x, _ => by cases x
  | .dict _, _, _, x, _ => by cases x
  | .bytearray _, _, _, x, _ => by cases x
  | .set _, _, _, x, _ => by cases x
  | .frozenset _, _, _, x, _ => by cases x
  | .obj _ _, _, _, x, _ => by cases x
theorem Dw.readsAll (hok : HOk P w H h) (KX : K.In h) : ∀ (ds : List WData) (vs : List V) (us : List Value), DwAll K H vs ds → Vals vs us → ∃ as, ReadsAllW R cl h us ds as
  | [], _, _, x, r => by
    cases x
    cases r
    exact ⟨_, ReadsAllW.nil⟩
  | d :: ds, _, _, x, r => by
    cases x with
    | cons h1 h2 =>
      cases r with
      | cons r1 r2 =>
        obtain ⟨as, q1⟩ := Dw.reads hok KX d _ _ h1 r1
        obtain ⟨bs, q2⟩ := Dw.readsAll hok KX ds _ _ h2 r2
        exact ⟨_, ReadsAllW.cons q1 q2⟩
end
end
/-! ### the arguments -/
mutual
/-- data that a codec tells -/
def plW : WData → Bool
  | .none => true
  | .bool _ => true
  | .int _ => true
  | .str _ => true
  | .bytes _ => true
  | .list xs => plWs xs
  | .tuple xs => plWs xs
  | _ => false
def plWs : List WData → Bool
  | [] => true
  | x :: r => plW x && plWs r
end
theorem plWs_map {α : Type} {f : α → WData} (h : ∀ a, plW (f a) = true) : ∀ l : List α, plWs (l.map f) = true
  | [] => rfl
  | x :: r => by
    show (plW (f x) && plWs (r.map f)) = true
    rw [h x, plWs_map h r] <;> rfl
theorem pl_enc : ∀ (c : Codec) (a : c.denote), plW (c.enc a) = true
  | .unit, _ => rfl
  | .bool, _ => rfl
  | .int _ _, _ => rfl
  | .nat _ _, _ => rfl
  | .u8, _ => rfl
  | .bytes _ _, _ => rfl
  | .text _ _ _ _, _ => rfl
  | .list _ _ c, a => plWs_map (fun x => pl_enc c x) a
  | .pair c d, a => by
    show (plW (c.enc a.1) && (plW (d.enc a.2) && true)) = true
    rw [pl_enc c a.1, pl_enc d a.2] <;> rfl
  | .triple c d e, a => by
    show (plW (c.enc a.1) && (plW (d.enc a.2.1) && (plW (e.enc a.2.2) && true))) = true
    rw [pl_enc c a.1, pl_enc d a.2.1, pl_enc e a.2.2] <;> rfl
  | .option c, none => rfl
  | .option c, some x => pl_enc c x
theorem pl_encAll : ∀ (cs : List Codec) (a : Codec.denoteAll cs), plWs (Codec.encAll cs a) = true
  | [], _ => rfl
  | c :: cs, a => by
    show (plW (c.enc a.1) && plWs (Codec.encAll cs a.2)) = true
    rw [pl_enc c a.1, pl_encAll cs a.2] <;> rfl
theorem weight_mem : ∀ {xs : List WData} {d : WData}, d ∈ xs → d.weight ≤ WData.weightAll xs
  | [], d, h => absurd h (by simp)
  | x :: r, d, h => by
    show d.weight ≤ x.weight + 1 + WData.weightAll r
    rcases List.mem_cons.mp h with e | m
    · rw [e]
      omega
    · have z := weight_mem m
      omega
def toV : Value → V
  | .none => .non
  | .bool b => .bl b
  | .int i _ => .int i
  | .str x _ => .str x
  | .bytes b _ => .byt b
  | .ref a => .ref a
  | _ => .non
/-- a value of the arguments, its objects among A -/
def OkU (A : List Addr) : Value → Prop
  | .none => True
  | .bool _ => True
  | .int _ _ => True
  | .str _ _ => True
  | .bytes _ _ => True
  | .ref a => a ∈ A
  | _ => False
theorem OkU.mono {A B : List Addr} (h : ∀ a ∈ A, a ∈ B) : ∀ {u : Value}, OkU A u → OkU B u := fun {u} x => by
  cases u with
  | ref a => exact h a x
  | none => trivial
  | bool b => trivial
  | int i t => trivial
  | str s t => trivial
  | bytes b t => trivial
  | _ => exact False.elim x
theorem relV_toV {A : List Addr} {u : Value} (x : OkU A u) : RelV (toV u) u := by
  cases u with
  | ref a => rfl
  | none => rfl
  | bool b => rfl
  | int i t => exact ⟨t, rfl⟩
  | str s t => exact ⟨t, rfl⟩
  | bytes b t => exact ⟨t, rfl⟩
  | _ => exact False.elim x
theorem vals_toV {A : List Addr} : ∀ {vs : List Value}, (∀ u ∈ vs, OkU A u) → Vals (vs.map toV) vs
  | [], _ => .nil
  | u :: r, h => .cons (relV_toV (h u (List.mem_cons_self ..))) (vals_toV fun x hx => h x (List.mem_cons_of_mem _ hx))
/-- an object of the arguments -/
def ArgOb (h : Heap) (A : List Addr) (a : Addr) : Prop := ∃ vs : List Value, vs.length ≤ sizeLine ∧ (∀ u ∈ vs, OkU A u) ∧
  (h.get? a = some { cls := .type "list", data := .seq vs.toArray } ∨ h.get? a = some { cls := .type "tuple", data := .seq vs.toArray })
theorem ArgOb.mono {h : Heap} {A B : List Addr} {a : Addr} (k : ∀ a ∈ A, a ∈ B) (x : ArgOb h A a) : ArgOb h B a := by
  obtain ⟨vs, h1, h2, h3⟩ := x
  exact ⟨vs, h1, fun u hu => (h2 u hu).mono k, h3⟩
theorem wellAll_len {P : Params} {h : Heap} : ∀ {vs : List Value} {ds : List WData}, WellAll P h vs ds → vs.length = ds.length
  | _, _, .nil => rfl
  | _, _, .cons _ b => by
    show _ + 1 = _ + 1
    rw [wellAll_len b]
theorem well_list {P : Params} {h : Heap} {v : Value} {ds : List WData} (x : Well P h v (.list ds)) : ∃ (a : Addr) (vs : List Value), v = .ref a ∧ h.get? a = some { cls := .type "list", data := .seq vs.toArray } ∧ WellAll P h vs ds := by
  cases x with
  | list ho hall => exact ⟨_, _, rfl, ho, hall⟩
theorem well_tuple {P : Params} {h : Heap} {v : Value} {ds : List WData} (x : Well P h v (.tuple ds)) : ∃ (a : Addr) (vs : List Value), v = .ref a ∧ h.get? a = some { cls := .type "tuple", data := .seq vs.toArray } ∧ WellAll P h vs ds := by
  cases x with
  | tuple ho hall => exact ⟨_, _, rfl, ho, hall⟩
theorem well_cons {P : Params} {h : Heap} {us : List Value} {d : WData} {ds : List WData} (x : WellAll P h us (d :: ds)) : ∃ (v : Value) (vs : List Value), us = v :: vs ∧ Well P h v d ∧ WellAll P h vs ds := by
  cases x with
  | cons a b => exact ⟨_, _, rfl, a, b⟩
theorem line_of {n : Nat} (h : n ≤ 1048576) : n ≤ sizeLine := Nat.le_trans h (by decide)
section
variable {P : Params} {h : Heap}
mutual
theorem area_one : ∀ (d : WData) (v : Value), Well P h v d → plW d = true → d.weight ≤ 1048576 → ∃ A : List Addr, OkU A v ∧ ∀ a ∈ A, ArgOb h A a
  | .none, _, x, _, _ => by
    cases x
    exact ⟨[], trivial, fun a m => absurd m (by simp)⟩
  | .bool b, _, x, _, _ => by
    cases x
    exact ⟨[], trivial, fun a m => absurd m (by simp)⟩
  | .int i, _, x, _, _ => by
    cases x
    exact ⟨[], trivial, fun a m => absurd m (by simp)⟩
  | .str s, _, x, _, _ => by
    cases x
    exact ⟨[], trivial, fun a m => absurd m (by simp)⟩
  | .bytes b, _, x, _, _ => by
    cases x
    exact ⟨[], trivial, fun a m => absurd m (by simp)⟩
  | .list ds, _, x, p, z => by
    obtain ⟨a, vs, rfl, ho, hall⟩ := well_list x
    have z2 : WData.weightAll ds ≤ 1048576 := z
    obtain ⟨A, h1, h2⟩ := area_all ds _ hall p fun d hd => Nat.le_trans (weight_mem hd) z2
    have k : ∀ b ∈ A, b ∈ a :: A := fun b hb => List.mem_cons_of_mem _ hb
    refine ⟨a :: A, List.mem_cons_self .., fun b hb => ?_⟩
    rcases List.mem_cons.mp hb with e | m
    · rw [e]
      exact ⟨vs, line_of (by rw [wellAll_len hall]; exact Nat.le_trans (PySem.W.length_le_weightAllW ds) z2), fun u hu => (h1 u hu).mono k, .inl ho⟩
    · exact (h2 b m).mono k
  | .tuple ds, _, x, p, z => by
    obtain ⟨a, vs, rfl, ho, hall⟩ := well_tuple x
    have z2 : WData.weightAll ds ≤ 1048576 := z
    obtain ⟨A, h1, h2⟩ := area_all ds _ hall p fun d hd => Nat.le_trans (weight_mem hd) z2
    have k : ∀ b ∈ A, b ∈ a :: A := fun b hb => List.mem_cons_of_mem _ hb
    refine ⟨a :: A, List.mem_cons_self .., fun b hb => ?_⟩
    rcases List.mem_cons.mp hb with e | m
    · rw [e]
      exact ⟨vs, line_of (by rw [wellAll_len hall]; exact Nat.le_trans (PySem.W.length_le_weightAllW ds) z2), fun u hu => (h1 u hu).mono k, .inr ho⟩
    · exact (h2 b m).mono k
  | .float _, _, _, p, _ => Bool.noConfusion (show false = true from p)
  | .dict _, _, _, p, _ => Bool.noConfusion (show false = true from p)
  | .bytearray _, _, _, p, _ => Bool.noConfusion (show false = true from p)
  | .set _, _, _, p, _ => Bool.noConfusion (show false = true from p)
  | .frozenset _, _, _, p, _ => Bool.noConfusion (show false = true from p)
  | .obj _ _, _, _, p, _ => Bool.noConfusion (show false = true from p)
theorem area_all : ∀ (ds : List WData) (vs : List Value), WellAll P h vs ds → plWs ds = true → (∀ d ∈ ds, d.weight ≤ 1048576) → ∃ A : List Addr, (∀ u ∈ vs, OkU A u) ∧ ∀ a ∈ A, ArgOb h A a
  | [], _, x, _, _ => by
    cases x
    exact ⟨[], fun u m => absurd m (by simp), fun a m => absurd m (by simp)⟩
  | d :: ds, _, x, p, z => by
    obtain ⟨v, vs, rfl, x1, x2⟩ := well_cons x
    have q : plW d = true ∧ plWs ds = true := Bool.and_eq_true_iff.mp p
    obtain ⟨A, a1, a2⟩ := area_one d v x1 q.1 (z d (List.mem_cons_self ..))
    obtain ⟨B, b1, b2⟩ := area_all ds vs x2 q.2 fun e he => z e (List.mem_cons_of_mem _ he)
    have kA : ∀ b ∈ A, b ∈ A ++ B := fun b hb => List.mem_append.mpr (.inl hb)
    have kB : ∀ b ∈ B, b ∈ A ++ B := fun b hb => List.mem_append.mpr (.inr hb)
    refine ⟨A ++ B, fun u hu => ?_, fun b hb => ?_⟩
    · rcases List.mem_cons.mp hu with e | m
      · rw [e]
        exact a1.mono kA
      · exact (b1 u m).mono kB
    · rcases List.mem_append.mp hb with m | m
      · exact (a2 b m).mono kA
      · exact (b2 b m).mono kB
end
end
/-- what is tracked of an argument's object -/
def hoOf (o : Obj) : Option HO := match o.data with
  | .seq vs _ => if (o.cls == Value.type "list") = true then some (.frz o (.lst (vs.toList.map toV))) else some (.frz o (.tup (vs.toList.map toV)))
  | _ => none
def argH (K : PySem.W.Frag) (h : Heap) (A : List Addr) : Hp := fun b => if b ∈ A then (if (K.lookup b).isNone = true then (h.get? b).bind hoOf else none) else none
/-- nothing is tracked but what is known to the object -/
def OnlyF (H : Hp) : Prop := ∀ b, H b = none ∨ ∃ o u, H b = some (.frz o u)
theorem hoOf_lst (vs : List Value) : hoOf { cls := .type "list", data := .seq vs.toArray } = some (.frz { cls := .type "list", data := .seq vs.toArray } (.lst (vs.map toV))) := by
  show (if (Value.type "list" == Value.type "list") = true then some (HO.frz { cls := .type "list", data := .seq vs.toArray } (.lst (vs.toArray.toList.map toV))) else some (HO.frz { cls := .type "list", data := .seq vs.toArray } (.tup (vs.toArray.toList.map toV)))) = _
  rw [if_pos (beq_self_eq_true _)]
theorem hoOf_tup (vs : List Value) : hoOf { cls := .type "tuple", data := .seq vs.toArray } = some (.frz { cls := .type "tuple", data := .seq vs.toArray } (.tup (vs.map toV))) := by
  show (if (Value.type "tuple" == Value.type "list") = true then some (HO.frz { cls := .type "tuple", data := .seq vs.toArray } (.lst (vs.toArray.toList.map toV))) else some (HO.frz { cls := .type "tuple", data := .seq vs.toArray } (.tup (vs.toArray.toList.map toV)))) = _
  rw [if_neg (by decide)]
section
variable {P : Program} {w : World} {K : PySem.W.Frag} {h : Heap} {A : List Addr}
theorem argH_at {b : Addr} {o : Obj} (hb : b ∈ A) (hk : K.lookup b = none) (e : h.get? b = some o) : argH K h A b = hoOf o := by
  unfold argH
  rw [if_pos hb, hk, if_pos (show (none : Option Obj).isNone = true from rfl), e] <;> rfl
theorem of_argH {b : Addr} {u : HO} (q : argH K h A b = some u) : b ∈ A ∧ K.lookup b = none := by
  unfold argH at q
  by_cases hb : b ∈ A
  · rw [if_pos hb] at q
    cases hk : K.lookup b with
    | none => exact ⟨hb, rfl⟩
    | some o =>
      rw [hk, if_neg (by simp)] at q
      cases q
  · rw [if_neg hb] at q
    cases q
/-- what stands tracked -/
theorem argH_is (ar : ∀ a ∈ A, ArgOb h A a) {b : Addr} {u : HO} (q : argH K h A b = some u) : K.lookup b = none ∧ ∃ vs : List Value, vs.length ≤ sizeLine ∧ (∀ u ∈ vs, OkU A u) ∧
    ((h.get? b = some { cls := .type "list", data := .seq vs.toArray } ∧ u = .frz { cls := .type "list", data := .seq vs.toArray } (.lst (vs.map toV))) ∨
     (h.get? b = some { cls := .type "tuple", data := .seq vs.toArray } ∧ u = .frz { cls := .type "tuple", data := .seq vs.toArray } (.tup (vs.map toV)))) := by
  obtain ⟨hb, hk⟩ := of_argH q
  obtain ⟨vs, h1, h2, h3⟩ := ar b hb
  refine ⟨hk, vs, h1, h2, ?_⟩
  rcases h3 with e | e
  · rw [argH_at hb hk e, hoOf_lst] at q
    exact .inl ⟨e, (Option.some.inj q).symm⟩
  · rw [argH_at hb hk e, hoOf_tup] at q
    exact .inr ⟨e, (Option.some.inj q).symm⟩
theorem argH_only (ar : ∀ a ∈ A, ArgOb h A a) : OnlyF (argH K h A) := fun b => by
  cases q : argH K h A b with
  | none => exact .inl rfl
  | some u =>
    obtain ⟨_, vs, _, _, ⟨_, e⟩ | ⟨_, e⟩⟩ := argH_is ar q
    · exact .inr ⟨_, _, by rw [e]⟩
    · exact .inr ⟨_, _, by rw [e]⟩
theorem argH_ok (ar : ∀ a ∈ A, ArgOb h A a) : HOk P w (argH K h A) h := fun b u q => by
  obtain ⟨_, vs, h1, h2, ⟨e, rfl⟩ | ⟨e, rfl⟩⟩ := argH_is ar q
  · exact ⟨e, by rw [List.length_map]; exact h1, vs, _, vals_toV h2, e⟩
  · exact ⟨e, by rw [List.length_map]; exact h1, vs, vals_toV h2, _, e, rfl, _, rfl⟩
theorem seq_inj {c c' : Value} {vs us : List Value} (e : (some { cls := c, data := .seq vs.toArray } : Option Obj) = some { cls := c', data := .seq us.toArray }) : c = c' ∧ vs = us := by
  have e1 := Option.some.inj e
  have e2 : c = c' := congrArg Obj.cls e1
  have e3 : Data.seq vs.toArray = Data.seq us.toArray := congrArg Obj.data e1
  injection e3 with e4
  refine ⟨e2, ?_⟩
  have e5 := congrArg Array.toList e4
  simpa using e5
/-- a list argument -/
theorem argL (KX : K.In h) (ar : ∀ a ∈ A, ArgOb h A a) {a : Addr} {vs : List Value} (ha : a ∈ A) (e : h.get? a = some { cls := .type "list", data := .seq vs.toArray }) : (∀ u ∈ vs, OkU A u) ∧ SqL K (argH K h A) a (vs.map toV) := by
  obtain ⟨us, h1, h2, h3⟩ := ar a ha
  have hu : us = vs := by
    rcases h3 with q | q
    · rw [e] at q
      exact (seq_inj q).2.symm
    · rw [e] at q
      exact absurd (Value.type.inj (seq_inj q).1) (by decide)
  subst hu
  refine ⟨h2, ?_⟩
  cases hk : K.lookup a with
  | none => exact .inl (.inr ⟨_, by rw [argH_at ha hk e, hoOf_lst]⟩)
  | some o =>
    have e2 := KX a o hk
    rw [e] at e2
    obtain rfl := Option.some.inj e2
    exact .inr ⟨_, us.toArray, _, hk, rfl, rfl, rfl, by rw [List.size_toArray]; exact h1, by simpa using vals_toV h2⟩
theorem argT (KX : K.In h) (ar : ∀ a ∈ A, ArgOb h A a) {a : Addr} {vs : List Value} (ha : a ∈ A) (e : h.get? a = some { cls := .type "tuple", data := .seq vs.toArray }) : (∀ u ∈ vs, OkU A u) ∧ SqT K (argH K h A) a (vs.map toV) := by
  obtain ⟨us, h1, h2, h3⟩ := ar a ha
  have hu : us = vs := by
    rcases h3 with q | q
    · rw [e] at q
      exact absurd (Value.type.inj (seq_inj q).1) (by decide)
    · rw [e] at q
      exact (seq_inj q).2.symm
  subst hu
  refine ⟨h2, ?_⟩
  cases hk : K.lookup a with
  | none => exact .inl (.inr ⟨_, by rw [argH_at ha hk e, hoOf_tup]⟩)
  | some o =>
    have e2 := KX a o hk
    rw [e] at e2
    obtain rfl := Option.some.inj e2
    exact .inr ⟨_, us.toArray, _, hk, rfl, rfl, by rw [List.size_toArray]; exact h1, by simpa using vals_toV h2⟩
mutual
theorem dw_one {Pm : Params} (KX : K.In h) (ar : ∀ a ∈ A, ArgOb h A a) : ∀ (d : WData) (v : Value), Well Pm h v d → plW d = true → OkU A v → Dw K (argH K h A) (toV v) d
  | .none, _, x, _, _ => by
    cases x
    exact .non
  | .bool b, _, x, _, _ => by
    cases x
    exact .bl b
  | .int i, _, x, _, _ => by
    cases x
    exact .int i
  | .str s, _, x, _, _ => by
    cases x
    exact .str s
  | .bytes b, _, x, _, _ => by
    cases x
    have z := Dw.byt (K := K) (H := argH K h A) b.toArray
    exact z
  | .list ds, _, x, p, hu => by
    obtain ⟨a, vs, rfl, ho, hall⟩ := well_list x
    obtain ⟨h2, hs⟩ := argL KX ar hu ho
    exact .lst hs (dw_all KX ar ds _ hall p h2)
  | .tuple ds, _, x, p, hu => by
    obtain ⟨a, vs, rfl, ho, hall⟩ := well_tuple x
    obtain ⟨h2, hs⟩ := argT KX ar hu ho
    exact .tup hs (dw_all KX ar ds _ hall p h2)
  | .float _, _, _, p, _ => Bool.noConfusion (show false = true from p)
  | .dict _, _, _, p, _ => Bool.noConfusion (show false = true from p)
  | .bytearray _, _, _, p, _ => Bool.noConfusion (show false = true from p)
  | .set _, _, _, p, _ => Bool.noConfusion (show false = true from p)
  | .frozenset _, _, _, p, _ => Bool.noConfusion (show false = true from p)
  | .obj _ _, _, _, p, _ => Bool.noConfusion (show false = true from p)
theorem dw_all {Pm : Params} (KX : K.In h) (ar : ∀ a ∈ A, ArgOb h A a) : ∀ (ds : List WData) (vs : List Value), WellAll Pm h vs ds → plWs ds = true → (∀ u ∈ vs, OkU A u) → DwAll K (argH K h A) (vs.map toV) ds
  | [], _, x, _, _ => by
    cases x
    exact .nil
  | d :: ds, _, x, p, hu => by
    obtain ⟨v, vs, rfl, x1, x2⟩ := well_cons x
    have q : plW d = true ∧ plWs ds = true := Bool.and_eq_true_iff.mp p
    exact .cons (dw_one KX ar d v x1 q.1 (hu _ (List.mem_cons_self ..))) (dw_all KX ar ds vs x2 q.2 fun u m => hu u (List.mem_cons_of_mem _ m))
end
end
/-! ### the call -/
/-! ### the row -/
theorem layable_weight {ds : List WData} (h : WData.layableAll ds = true) : ∀ d ∈ ds, d.weight ≤ 1048576 := fun d hd =>
  (PySem.W.layableW_iff.mp (List.all_eq_true.mp h d hd)).2.2
theorem encAll_len : ∀ (cs : List Codec) (a : Codec.denoteAll cs), (Codec.encAll cs a).length = cs.length
  | [], _ => rfl
  | c :: cs, a => by
    show (Codec.encAll cs a.2).length + 1 = cs.length + 1
    rw [encAll_len cs a.2]
end L2
end

section
set_option Elab.async false
namespace Cg
/-! ## Counting -/
theorem nodup_map_on {α β : Type} {f : α → β} : ∀ {l : List α}, l.Nodup → (∀ a, a ∈ l → ∀ b, b ∈ l → f a = f b → a = b) → (l.map f).Nodup
  | [], _, _ => List.nodup_nil
  | x :: l, h, inj => by
    rw [List.nodup_cons] at h
    rw [List.map_cons, List.nodup_cons]
    refine ⟨fun hm => ?_, nodup_map_on h.2 fun a ha b hb => inj a (List.mem_cons_of_mem _ ha) b (List.mem_cons_of_mem _ hb)⟩
    obtain ⟨y, hy, e⟩ := List.mem_map.mp hm
    have := inj y (List.mem_cons_of_mem _ hy) x List.mem_cons_self e
    subst this
    exact h.1 hy
theorem nodup_filter {α : Type} {l : List α} (p : α → Bool) (h : l.Nodup) : (l.filter p).Nodup := h.sublist List.filter_sublist
theorem inj_count {α β : Type} {U : List α} {L : List β} (hU : U.Nodup) {T : α → Bool} {P : β → Bool} (f : α → β)
    (hf : ∀ c, c ∈ U → T c = true → f c ∈ L ∧ P (f c) = true)
    (inj : ∀ c, c ∈ U → T c = true → ∀ d, d ∈ U → T d = true → f c = f d → c = d) : U.countP T ≤ L.countP P := by
  rw [List.countP_eq_length_filter, List.countP_eq_length_filter, ← List.length_map (f := f)]
  refine List.Nodup.length_le_of_subset (nodup_map_on (nodup_filter T hU) ?_) ?_
  · intro a ha b hb e
    rw [List.mem_filter] at ha hb
    exact inj a ha.1 ha.2 b hb.1 hb.2 e
  · intro y hy
    obtain ⟨c, hc, rfl⟩ := List.mem_map.mp hy
    rw [List.mem_filter] at hc
    exact List.mem_filter.mpr (hf c hc.1 hc.2)
theorem count_or_and {α : Type} (p q : α → Bool) : ∀ l : List α, l.countP (fun x => p x || q x) + l.countP (fun x => p x && q x) = l.countP p + l.countP q
  | [] => rfl
  | x :: l => by
    have ih := count_or_and p q l
    simp only [List.countP_cons]
    cases p x <;> cases q x <;> simp <;> omega
theorem count_split {α : Type} (p q : α → Bool) : ∀ l : List α, l.countP p = l.countP (fun x => p x && q x) + l.countP (fun x => p x && !q x)
  | [] => rfl
  | x :: l => by
    have ih := count_split p q l
    simp only [List.countP_cons]
    cases p x <;> cases q x <;> simp <;> omega

/-! ## The search for a cabin, as a function -/
structure KS where
  hold : Nat → Option Nat
  tried : Nat → Bool
def KS.mark (s : KS) (c : Nat) : KS := ⟨s.hold, fun d => if d = c then true else s.tried d⟩
def KS.put (s : KS) (c p : Nat) : KS := ⟨fun d => if d = c then some p else s.hold d, s.tried⟩
def scan (rec : Nat → KS → Bool × KS) (p : Nat) : List Nat → KS → Bool × KS
  | [], s => (false, s)
  | c :: r, s => if s.tried c = true then scan rec p r s else
    match s.hold c with
    | none => (true, (s.mark c).put c p)
    | some q => if (rec q (s.mark c)).1 = true then (true, (rec q (s.mark c)).2.put c p) else scan rec p r (rec q (s.mark c)).2
def find (W : Nat → List Nat) : Nat → Nat → KS → Bool × KS
  | 0, _, s => (false, s)
  | f + 1, p, s => scan (find W f) p (W p) s
/-- a matching: each in one that does, no two in the same, and none in two -/
structure Mat (W : Nat → List Nat) (hold : Nat → Option Nat) : Prop where
  edge : ∀ {c q}, hold c = some q → c ∈ W q
  one : ∀ {c d q}, hold c = some q → hold d = some q → c = d
/-- what a search that found one leaves -/
structure Won (W : Nat → List Nat) (p : Nat) (s s' : KS) : Prop where
  got : ∃ c, s.tried c = false ∧ s'.hold c = some p ∧ ∀ d, s'.hold d = some p → d = c ∨ s.hold d = some p
  held : ∀ x, x ≠ p → ((∃ c, s.hold c = some x) ↔ ∃ c, s'.hold c = some x)
  one : ∀ x, x ≠ p → ∀ c d, s'.hold c = some x → s'.hold d = some x → c = d
  kept : ∀ c, s.tried c = true → s'.hold c = s.hold c
  edge : ∀ c x, s'.hold c = some x → c ∈ W x
/-- what a search that found none leaves -/
structure Lost (W : Nat → List Nat) (s s' : KS) : Prop where
  same : s'.hold = s.hold
  more : ∀ c, s.tried c = true → s'.tried c = true
  shut : ∀ c, s.tried c = false → s'.tried c = true → ∃ q, s.hold c = some q ∧ ∀ d, d ∈ W q → s'.tried d = true
theorem Lost.rfl' {W : Nat → List Nat} {s : KS} : Lost W s s := ⟨rfl, fun _ h => h, fun c h h' => by rw [h] at h'; cases h'⟩
def left (U : List Nat) (s : KS) : Nat := U.countP fun c => !s.tried c
theorem left_mark {U : List Nat} {s : KS} {c : Nat} (hc : c ∈ U) (h : s.tried c = false) : left U (s.mark c) < left U s := by
  unfold left
  have h1 : ∀ {L : List Nat}, L.countP (fun d => !(s.mark c).tried d) ≤ L.countP fun d => !s.tried d := fun {L} => by
    refine List.countP_mono_left fun x _ hx => ?_
    by_cases e : x = c
    · subst e
      simp [KS.mark] at hx
    · simpa [KS.mark, e] using hx
  induction U with
  | nil => cases hc
  | cons a l ih =>
    rw [List.countP_cons, List.countP_cons]
    by_cases e : a = c
    · subst e
      have h2 := h1 (L := l)
      simp [KS.mark, h] at h2 ⊢
      omega
    · have hm : c ∈ l := by
        rcases List.mem_cons.mp hc with q | q
        · exact absurd q.symm e
        · exact q
      have := ih hm
      have e2 : (!(s.mark c).tried a) = !s.tried a := by simp [KS.mark, e]
      rw [e2]
      omega
theorem left_more {U : List Nat} {s s' : KS} (h : ∀ c, s.tried c = true → s'.tried c = true) : left U s' ≤ left U s := by
  refine List.countP_mono_left fun x _ hx => ?_
  cases e : s.tried x with
  | false => rfl
  | true =>
    rw [h x e] at hx
    cases hx
theorem find_ok {W : Nat → List Nat} {U : List Nat} (hU : ∀ q c, c ∈ W q → c ∈ U) : ∀ (f p : Nat) (s : KS), left U s < f → Mat W s.hold → (∀ c, s.hold c = some p → s.tried c = true) →
    ((find W f p s).1 = true ∧ Won W p s (find W f p s).2) ∨ ((find W f p s).1 = false ∧ Lost W s (find W f p s).2 ∧ ∀ d, d ∈ W p → (find W f p s).2.tried d = true)
  | 0, _, _, h, _, _ => absurd h (Nat.not_lt_zero _)
  | f + 1, p, s, hl, M, hp => by
    have go : ∀ (l : List Nat), (∀ c, c ∈ l → c ∈ W p) → ∀ s1 : KS, Lost W s s1 → 
        ((scan (find W f) p l s1).1 = true ∧ Won W p s (scan (find W f) p l s1).2) ∨ ((scan (find W f) p l s1).1 = false ∧ Lost W s (scan (find W f) p l s1).2 ∧ Lost W s1 (scan (find W f) p l s1).2 ∧ ∀ d, d ∈ l → (scan (find W f) p l s1).2.tried d = true) := by
      intro l
      induction l with
      | nil =>
        intro _ s1 L
        exact .inr ⟨rfl, L, Lost.rfl', fun d hd => by cases hd⟩
      | cons c r ih =>
        intro hW s1 L
        have hr : ∀ d, d ∈ r → d ∈ W p := fun d hd => hW d (List.mem_cons_of_mem _ hd)
        unfold scan
        by_cases ht : s1.tried c = true
        · rw [if_pos ht]
          rcases ih hr s1 L with ⟨a, b⟩ | ⟨a, b, b2, g⟩
          · exact .inl ⟨a, b⟩
          · refine .inr ⟨a, b, b2, fun d hd => ?_⟩
            rcases List.mem_cons.mp hd with q | q
            · subst q
              exact b2.more _ ht
            · exact g d q
        · rw [if_neg ht]
          have ht : s1.tried c = false := by simpa using ht
          have hts : s.tried c = false := by
            cases e : s.tried c with
            | false => rfl
            | true =>
              rw [L.more c e] at ht
              cases ht
          have hcU : c ∈ U := hU p c (hW c List.mem_cons_self)
          have hm1 : ∀ d, s1.tried d = true → (s1.mark c).tried d = true := fun d hd => by
            by_cases e : d = c
            · simp [KS.mark, e]
            · simp [KS.mark, e, hd]
          have hk : ∀ d, s.tried d = true → (s1.mark c).tried d = true := fun d hd => hm1 d (L.more d hd)
          have eh : (s1.mark c).hold = s.hold := L.same
          have hcc : (s1.mark c).tried c = true := by simp [KS.mark]
          have hne : ∀ d, s.hold d = some p → d ≠ c := fun d hd e => by
            subst e
            rw [hp d hd] at hts
            cases hts
          cases hq : s1.hold c with
          | none =>
            rw [L.same] at hq
            refine .inl ⟨rfl, ?_⟩
            have eh2 : ∀ d, ((s1.mark c).put c p).hold d = if d = c then some p else s.hold d := fun d => by
              show (if d = c then some p else (s1.mark c).hold d) = _
              rw [eh]
            refine ⟨⟨c, hts, by rw [eh2, if_pos rfl], fun d hd => ?_⟩, fun x hx => ⟨?_, ?_⟩, fun x hx a b ha hb => ?_, fun d hd => ?_, fun d x hd => ?_⟩
            · rw [eh2] at hd
              by_cases e : d = c
              · exact .inl e
              · rw [if_neg e] at hd
                exact .inr hd
            · rintro ⟨d, hd⟩
              refine ⟨d, ?_⟩
              rw [eh2, if_neg]
              · exact hd
              · intro e
                subst e
                rw [hq] at hd
                cases hd
            · rintro ⟨d, hd⟩
              rw [eh2] at hd
              by_cases e : d = c
              · rw [if_pos e] at hd
                exact absurd (Option.some.inj hd).symm hx
              · rw [if_neg e] at hd
                exact ⟨d, hd⟩
            · rw [eh2] at ha hb
              by_cases e : a = c
              · rw [if_pos e] at ha
                exact absurd (Option.some.inj ha).symm hx
              · by_cases e' : b = c
                · rw [if_pos e'] at hb
                  exact absurd (Option.some.inj hb).symm hx
                · rw [if_neg e] at ha
                  rw [if_neg e'] at hb
                  exact M.one ha hb
            · rw [eh2, if_neg]
              intro e
              subst e
              rw [hts] at hd
              cases hd
            · rw [eh2] at hd
              by_cases e : d = c
              · rw [if_pos e] at hd
                have := Option.some.inj hd
                subst this
                subst e
                exact hW d List.mem_cons_self
              · rw [if_neg e] at hd
                exact M.edge hd
          | some q =>
            have hq0 := hq
            rw [L.same] at hq
            have hqp : q ≠ p := fun e => by
              subst e
              exact hne c hq rfl
            have IH := find_ok hU f q (s1.mark c) (by have := left_mark hcU ht; have := left_more (U := U) L.more; omega) (by rw [eh]; exact M) (fun d hd => by
              rw [eh] at hd
              rw [M.one hd hq]
              exact hcc)
            dsimp only
            generalize find W f q (s1.mark c) = z at IH ⊢
            obtain ⟨b, s2⟩ := z
            rcases IH with ⟨hb, w⟩ | ⟨hb, w, w2⟩
            · have hb : b = true := hb
              subst hb
              have w : Won W q (s1.mark c) s2 := w
              refine .inl ⟨rfl, ?_⟩
              have eh2 : ∀ d, (s2.put c p).hold d = if d = c then some p else s2.hold d := fun d => rfl
              obtain ⟨c1, hc1, hc1q, hc1u⟩ := w.got
              have n1 : c1 ≠ c := fun e => by
                rw [e, hcc] at hc1
                cases hc1
              have h2c : s2.hold c = some q := by rw [w.kept c hcc, eh, hq]
              show Won W p s (s2.put c p)
              refine ⟨⟨c, hts, by rw [eh2, if_pos rfl], fun d hd => ?_⟩, fun x hx => ⟨?_, ?_⟩, fun x hx a b ha hb => ?_, fun d hd => ?_, fun d x hd => ?_⟩
              · rw [eh2] at hd
                by_cases e : d = c
                · exact .inl e
                · rw [if_neg e] at hd
                  refine .inr ?_
                  obtain ⟨d0, hd0⟩ := (w.held p (Ne.symm hqp)).mpr ⟨d, hd⟩
                  rw [eh] at hd0
                  have k0 := w.kept d0 (hk d0 (hp d0 hd0))
                  rw [eh, hd0] at k0
                  rw [w.one p (Ne.symm hqp) d d0 hd k0]
                  exact hd0
              · rintro ⟨d, hd⟩
                by_cases e : x = q
                · subst e
                  exact ⟨c1, by rw [eh2, if_neg n1]; exact hc1q⟩
                · obtain ⟨d', hd'⟩ := (w.held x e).mp ⟨d, by rw [eh]; exact hd⟩
                  refine ⟨d', ?_⟩
                  rw [eh2, if_neg]
                  · exact hd'
                  · intro e'
                    subst e'
                    rw [h2c] at hd'
                    exact e (Option.some.inj hd').symm
              · rintro ⟨d, hd⟩
                rw [eh2] at hd
                by_cases e : d = c
                · rw [if_pos e] at hd
                  exact absurd (Option.some.inj hd).symm hx
                · rw [if_neg e] at hd
                  by_cases e' : x = q
                  · exact ⟨c, by rw [e']; exact hq⟩
                  · obtain ⟨d', hd'⟩ := (w.held x e').mpr ⟨d, hd⟩
                    exact ⟨d', by rw [eh] at hd'; exact hd'⟩
              · rw [eh2] at ha hb
                by_cases e : a = c
                · rw [if_pos e] at ha
                  exact absurd (Option.some.inj ha).symm hx
                · by_cases e' : b = c
                  · rw [if_pos e'] at hb
                    exact absurd (Option.some.inj hb).symm hx
                  · rw [if_neg e] at ha
                    rw [if_neg e'] at hb
                    by_cases ex : x = q
                    · subst ex
                      have u : ∀ d, d ≠ c → s2.hold d = some x → d = c1 := fun d hdc hd => by
                        rcases hc1u d hd with z | z
                        · exact z
                        · rw [eh] at z
                          exact absurd (M.one z hq) hdc
                      rw [u a e ha, u b e' hb]
                    · exact w.one x ex a b ha hb
              · rw [eh2, if_neg]
                · rw [w.kept d (hk d hd), eh]
                · intro e
                  subst e
                  rw [hts] at hd
                  cases hd
              · rw [eh2] at hd
                by_cases e : d = c
                · rw [if_pos e] at hd
                  have := Option.some.inj hd
                  subst this
                  subst e
                  exact hW d List.mem_cons_self
                · rw [if_neg e] at hd
                  exact w.edge d x hd
            · have hb : b = false := hb
              subst hb
              have w : Lost W (s1.mark c) s2 := w
              have w2 : ∀ d, d ∈ W q → s2.tried d = true := w2
              have L1 : Lost W s1 s2 := by
                refine ⟨w.same.trans rfl, fun d hd => w.more d (hm1 d hd), fun d hd hd2 => ?_⟩
                by_cases e : d = c
                · subst e
                  exact ⟨q, hq0, w2⟩
                · exact w.shut d (by simp [KS.mark, e, hd]) hd2
              have L2 : Lost W s s2 := by
                refine ⟨L1.same.trans L.same, fun d hd => L1.more d (L.more d hd), fun d hd hd2 => ?_⟩
                cases e : s1.tried d with
                | false =>
                  obtain ⟨x, hx, g⟩ := L1.shut d e hd2
                  rw [L.same] at hx
                  exact ⟨x, hx, g⟩
                | true =>
                  obtain ⟨x, hx, g⟩ := L.shut d hd e
                  exact ⟨x, hx, fun y hy => L1.more y (g y hy)⟩
              have E : (if ((false, s2) : Bool × KS).1 = true then (true, ((false, s2) : Bool × KS).2.put c p) else scan (find W f) p r ((false, s2) : Bool × KS).2) = scan (find W f) p r s2 := rfl
              rw [E]
              rcases ih hr s2 L2 with ⟨a, b⟩ | ⟨a, b, b2, g⟩
              · exact .inl ⟨a, b⟩
              · refine .inr ⟨a, b, ?_, fun d hd => ?_⟩
                · refine ⟨b2.same.trans L1.same, fun d hd => b2.more d (L1.more d hd), fun d hd hd2 => ?_⟩
                  cases e : s2.tried d with
                  | false =>
                    obtain ⟨x, hx, g⟩ := b2.shut d e hd2
                    rw [L1.same] at hx
                    exact ⟨x, hx, g⟩
                  | true =>
                    obtain ⟨x, hx, g⟩ := L1.shut d hd e
                    exact ⟨x, hx, fun y hy => b2.more y (g y hy)⟩
                · rcases List.mem_cons.mp hd with z | z
                  · subst z
                    exact b2.more _ (w.more _ hcc)
                  · exact g d z
    rcases go (W p) (fun c h => h) s Lost.rfl' with ⟨a, b⟩ | ⟨a, b, _, g⟩
    · exact .inl ⟨a, b⟩
    · exact .inr ⟨a, b, g⟩
end Cg

end
section
set_option Elab.async false
namespace Cg
/-- how many of the first n -/
def cnt (n : Nat) (S : Nat → Bool) : Nat := (List.range n).countP S
/-- cabins that do for one of them -/
def nbp (W : Nat → List Nat) (n : Nat) (S : Nat → Bool) (c : Nat) : Bool := (List.range n).any fun q => S q && (W q).contains c
def nb (U : List Nat) (W : Nat → List Nat) (n : Nat) (S : Nat → Bool) : Nat := U.countP (nbp W n S)
theorem nbp_iff {W : Nat → List Nat} {n : Nat} {S : Nat → Bool} {c : Nat} : nbp W n S c = true ↔ ∃ q, q < n ∧ S q = true ∧ c ∈ W q := by
  unfold nbp
  rw [List.any_eq_true]
  constructor
  · rintro ⟨q, hq, h⟩
    rw [Bool.and_eq_true, List.contains_iff_mem] at h
    exact ⟨q, List.mem_range.mp hq, h.1, h.2⟩
  · rintro ⟨q, hq, h1, h2⟩
    exact ⟨q, List.mem_range.mpr hq, by rw [Bool.and_eq_true, List.contains_iff_mem]; exact ⟨h1, h2⟩⟩
theorem submod (U : List Nat) (W : Nat → List Nat) (n : Nat) (A B : Nat → Bool) : nb U W n (fun q => A q || B q) + nb U W n (fun q => A q && B q) ≤ nb U W n A + nb U W n B := by
  have h := count_or_and (nbp W n A) (nbp W n B) U
  have h1 : nb U W n (fun q => A q || B q) ≤ U.countP fun x => nbp W n A x || nbp W n B x := by
    refine List.countP_mono_left fun c _ hc => ?_
    obtain ⟨q, hq, hs, hw⟩ := nbp_iff.mp hc
    rw [Bool.or_eq_true] at hs ⊢
    rcases hs with hs | hs
    · exact .inl (nbp_iff.mpr ⟨q, hq, hs, hw⟩)
    · exact .inr (nbp_iff.mpr ⟨q, hq, hs, hw⟩)
  have h2 : nb U W n (fun q => A q && B q) ≤ U.countP fun x => nbp W n A x && nbp W n B x := by
    refine List.countP_mono_left fun c _ hc => ?_
    obtain ⟨q, hq, hs, hw⟩ := nbp_iff.mp hc
    rw [Bool.and_eq_true] at hs ⊢
    exact ⟨nbp_iff.mpr ⟨q, hq, hs.1, hw⟩, nbp_iff.mpr ⟨q, hq, hs.2, hw⟩⟩
  unfold nb at *
  omega
/-- a party that has a cabin -/
def mt (U : List Nat) (hold : Nat → Option Nat) (q : Nat) : Bool := U.any fun c => hold c == some q
theorem mt_iff {U : List Nat} {hold : Nat → Option Nat} {q : Nat} : mt U hold q = true ↔ ∃ c, c ∈ U ∧ hold c = some q := by
  unfold mt
  rw [List.any_eq_true]
  constructor
  · rintro ⟨c, hc, h⟩
    exact ⟨c, hc, eq_of_beq h⟩
  · rintro ⟨c, hc, h⟩
    exact ⟨c, hc, by rw [h]; exact beq_self_eq_true _⟩
/-- those that have one are no more than the cabins that do for them -/
theorem matched_le {W : Nat → List Nat} {U : List Nat} {n : Nat} {hold : Nat → Option Nat} (hU : ∀ q c, c ∈ W q → c ∈ U) (M : Mat W hold) {S : Nat → Bool} (hS : ∀ q, q < n → S q = true → ∃ c, hold c = some q) : cnt n S ≤ nb U W n S := by
  have pick : ∀ q, ∃ c, q < n → S q = true → hold c = some q := fun q => by
    by_cases h : q < n ∧ S q = true
    · obtain ⟨c, hc⟩ := hS q h.1 h.2
      exact ⟨c, fun _ _ => hc⟩
    · exact ⟨0, fun a b => absurd ⟨a, b⟩ h⟩
  refine inj_count List.nodup_range (fun q => Classical.choose (pick q)) (fun q hq hs => ?_) (fun q hq hs r hr hs' e => ?_)
  · have h := Classical.choose_spec (pick q) (List.mem_range.mp hq) hs
    exact ⟨hU q _ (M.edge h), nbp_iff.mpr ⟨q, List.mem_range.mp hq, hs, M.edge h⟩⟩
  · have h := Classical.choose_spec (pick q) (List.mem_range.mp hq) hs
    have h' := Classical.choose_spec (pick r) (List.mem_range.mp hr) hs'
    rw [show Classical.choose (pick q) = Classical.choose (pick r) from e, h'] at h
    exact (Option.some.inj h).symm
def mostTo (W : Nat → List Nat) (f : Nat) : Nat → (Nat → Option Nat) × Nat
  | 0 => (fun _ => none, 0)
  | i + 1 => ((find W f i ⟨(mostTo W f i).1, fun _ => false⟩).2.hold, if (find W f i ⟨(mostTo W f i).1, fun _ => false⟩).1 = true then (mostTo W f i).2 + 1 else (mostTo W f i).2)
structure Good (W : Nat → List Nat) (U : List Nat) (n i : Nat) (hold : Nat → Option Nat) (k : Nat) : Prop where
  mat : Mat W hold
  low : ∀ {c q}, hold c = some q → q < i
  num : (List.range i).countP (mt U hold) = k
  cert : ∃ R : Nat → Bool, (∀ q, R q = true → q < i) ∧ i + nb U W n R ≤ cnt n R + k
theorem cnt_low {n i : Nat} (h : i ≤ n) {R : Nat → Bool} (hR : ∀ q, R q = true → q < i) : cnt n R = (List.range i).countP R := by
  obtain ⟨d, rfl⟩ := Nat.exists_eq_add_of_le h
  unfold cnt
  induction d with
  | zero => rfl
  | succ d ih =>
    rw [← Nat.add_assoc, List.range_succ, List.countP_append, ih (by omega), List.countP_cons, List.countP_nil]
    have : R (i + d) = false := by
      cases e : R (i + d) with
      | false => rfl
      | true => exact absurd (hR _ e) (by omega)
    rw [this]
    simp
theorem most_good {W : Nat → List Nat} {U : List Nat} {n f : Nat} (nU : U.Nodup) (hU : ∀ q c, c ∈ W q → c ∈ U) (hf : U.length < f) : ∀ i, i ≤ n → Good W U n i (mostTo W f i).1 (mostTo W f i).2
  | 0, _ => by
    refine ⟨⟨fun h => (by cases h), fun h => (by cases h)⟩, fun h => (by cases h), rfl, fun _ => false, fun _ h => (by cases h), ?_⟩
    have : nb U W n (fun _ => false) = 0 := by
      unfold nb
      rw [List.countP_eq_zero]
      intro c _ h
      obtain ⟨q, _, h, _⟩ := nbp_iff.mp h
      cases h
    rw [this]
    exact Nat.zero_le _
  | i + 1, hi => by
    have G := most_good (n := n) nU hU hf i (by omega)
    have K := find_ok hU f i ⟨(mostTo W f i).1, fun _ => false⟩ (Nat.lt_of_le_of_lt List.countP_le_length hf) G.mat (fun c h => absurd (G.low h) (Nat.lt_irrefl _))
    have e1 : (mostTo W f (i + 1)).1 = (find W f i ⟨(mostTo W f i).1, fun _ => false⟩).2.hold := rfl
    have e2 : (mostTo W f (i + 1)).2 = if (find W f i ⟨(mostTo W f i).1, fun _ => false⟩).1 = true then (mostTo W f i).2 + 1 else (mostTo W f i).2 := rfl
    rw [e1, e2]
    generalize find W f i ⟨(mostTo W f i).1, fun _ => false⟩ = z at K ⊢
    generalize (mostTo W f i).1 = hold at G K ⊢
    generalize (mostTo W f i).2 = k at G ⊢
    obtain ⟨b, s⟩ := z
    rcases K with ⟨hb, w⟩ | ⟨hb, w, w2⟩
    · have hb : b = true := hb
      subst hb
      have w : Won W i ⟨hold, fun _ => false⟩ s := w
      obtain ⟨c, _, hc, hcu⟩ := w.got
      have hcu : ∀ d, s.hold d = some i → d = c := fun d hd => by
        rcases hcu d hd with h | h
        · exact h
        · exact absurd (G.low h) (Nat.lt_irrefl _)
      refine ⟨⟨fun {c q} h => w.edge c q h, fun {c d q} h h' => ?_⟩, fun {c q} h => ?_, ?_, ?_⟩
      · by_cases e : q = i
        · subst e
          rw [hcu _ h, hcu _ h']
        · exact w.one q e _ _ h h'
      · by_cases e : q = i
        · omega
        · obtain ⟨d, hd⟩ := (w.held q e).mpr ⟨c, h⟩
          have := G.low hd
          omega
      · show (List.range (i + 1)).countP (mt U s.hold) = k + 1
        rw [List.range_succ, List.countP_append, List.countP_cons, List.countP_nil]
        have h1 : mt U s.hold i = true := mt_iff.mpr ⟨c, hU i c (w.edge c i hc), hc⟩
        rw [h1, ← G.num]
        have h2 : (List.range i).countP (mt U s.hold) = (List.range i).countP (mt U hold) := by
          refine List.countP_congr fun q hq => ?_
          have e : q ≠ i := fun e => by
            have := List.mem_range.mp hq
            omega
          rw [mt_iff, mt_iff]
          constructor
          · rintro ⟨d, _, hd⟩
            obtain ⟨d', hd'⟩ := (w.held q e).mpr ⟨d, hd⟩
            exact ⟨d', hU q d' (G.mat.edge hd'), hd'⟩
          · rintro ⟨d, _, hd⟩
            obtain ⟨d', hd'⟩ := (w.held q e).mp ⟨d, hd⟩
            exact ⟨d', hU q d' (w.edge d' q hd'), hd'⟩
        rw [h2]
        simp
      · obtain ⟨R, hR, hc⟩ := G.cert
        refine ⟨R, fun q h => Nat.lt_succ_of_lt (hR q h), ?_⟩
        show i + 1 + nb U W n R ≤ cnt n R + (k + 1)
        omega
    · have hb : b = false := hb
      subst hb
      have w : Lost W ⟨hold, fun _ => false⟩ s := w
      have w2 : ∀ d, d ∈ W i → s.tried d = true := w2
      have es : s.hold = hold := w.same
      have sh : ∀ c, s.tried c = true → ∃ q, hold c = some q ∧ ∀ d, d ∈ W q → s.tried d = true := fun c hc => w.shut c rfl hc
      show Good W U n (i + 1) s.hold k
      rw [es]
      refine ⟨G.mat, fun {c q} h => Nat.lt_succ_of_lt (G.low h), ?_, ?_⟩
      · rw [List.range_succ, List.countP_append, List.countP_cons, List.countP_nil, G.num]
        have : mt U hold i = false := by
          cases e : mt U hold i with
          | false => rfl
          | true =>
            obtain ⟨c, _, h⟩ := mt_iff.mp e
            exact absurd (G.low h) (Nat.lt_irrefl _)
        rw [this]
        simp
      · obtain ⟨R, hR, hc⟩ := G.cert
        -- those that were reached
        let B : Nat → Bool := fun q => q == i || U.any fun c => s.tried c && (hold c == some q)
        have hB : ∀ q, B q = true ↔ q = i ∨ ∃ c, c ∈ U ∧ s.tried c = true ∧ hold c = some q := fun q => by
          show (q == i || U.any fun c => s.tried c && (hold c == some q)) = true ↔ _
          rw [Bool.or_eq_true, List.any_eq_true]
          constructor
          · rintro (h | ⟨c, hc, h⟩)
            · exact .inl (eq_of_beq h)
            · rw [Bool.and_eq_true] at h
              exact .inr ⟨c, hc, h.1, eq_of_beq h.2⟩
          · rintro (h | ⟨c, hc, h1, h2⟩)
            · exact .inl (by rw [h]; exact beq_self_eq_true _)
            · exact .inr ⟨c, hc, by rw [Bool.and_eq_true]; exact ⟨h1, by rw [h2]; exact beq_self_eq_true _⟩⟩
        have nbB : nb U W n B ≤ U.countP s.tried := by
          refine List.countP_mono_left fun c _ h => ?_
          obtain ⟨q, _, hq, hw⟩ := nbp_iff.mp h
          rcases (hB q).mp hq with e | ⟨d, _, hd, hh⟩
          · subst e
            exact w2 c hw
          · obtain ⟨q', hq', g⟩ := sh d hd
            rw [hh] at hq'
            have := Option.some.inj hq'
            subst this
            exact g c hw
        have cB : U.countP s.tried + 1 ≤ cnt n B := by
          have hBl : ∀ q, B q = true → q < i + 1 := fun q h => by
            rcases (hB q).mp h with e | ⟨d, _, _, hh⟩
            · omega
            · have := G.low hh
              omega
          rw [cnt_low hi hBl, List.range_succ, List.countP_append, List.countP_cons, List.countP_nil]
          have : B i = true := (hB i).mpr (.inl rfl)
          rw [this]
          have le : U.countP s.tried ≤ (List.range i).countP B := by
            refine inj_count nU (fun c => (hold c).getD 0) (fun c hc ht => ?_) (fun c hc ht d hd ht' e => ?_)
            · obtain ⟨q, hq, _⟩ := sh c ht
              rw [hq]
              exact ⟨List.mem_range.mpr (G.low hq), (hB q).mpr (.inr ⟨c, hc, ht, hq⟩)⟩
            · obtain ⟨q, hq, _⟩ := sh c ht
              obtain ⟨q', hq', _⟩ := sh d ht'
              rw [hq, hq'] at e
              have e : q = q' := e
              subst e
              exact G.mat.one hq hq'
          simpa using le
        have inter : cnt n (fun q => R q && B q) ≤ nb U W n (fun q => R q && B q) := by
          refine matched_le hU G.mat fun q _ h => ?_
          rw [Bool.and_eq_true] at h
          rcases (hB q).mp h.2 with e | ⟨c, _, _, hh⟩
          · have := hR q h.1
            omega
          · exact ⟨c, hh⟩
        refine ⟨fun q => R q || B q, fun q h => ?_, ?_⟩
        · rw [Bool.or_eq_true] at h
          rcases h with h | h
          · exact Nat.lt_succ_of_lt (hR q h)
          · rcases (hB q).mp h with e | ⟨c, _, _, hh⟩
            · omega
            · have := G.low hh
              omega
        · have s1 := submod U W n R B
          have s2 := count_or_and R B (List.range n)
          unfold cnt at *
          omega
/-- so many must do without -/
structure IsDef (U : List Nat) (W : Nat → List Nat) (n u : Nat) : Prop where
  some : ∃ R : Nat → Bool, u + nb U W n R ≤ cnt n R
  all : ∀ S : Nat → Bool, cnt n S ≤ u + nb U W n S
theorem most_def {W : Nat → List Nat} {U : List Nat} {n f : Nat} (nU : U.Nodup) (hU : ∀ q c, c ∈ W q → c ∈ U) (hf : U.length < f) : (mostTo W f n).2 ≤ n ∧ IsDef U W n (n - (mostTo W f n).2) := by
  have G := most_good (n := n) nU hU hf n (Nat.le_refl _)
  generalize (mostTo W f n).1 = hold at G
  generalize (mostTo W f n).2 = k at G ⊢
  have hk : k ≤ n := by
    rw [← G.num]
    exact Nat.le_trans List.countP_le_length (by simp)
  refine ⟨hk, ?_, fun S => ?_⟩
  · obtain ⟨R, _, hc⟩ := G.cert
    exact ⟨R, by omega⟩
  · have h := count_split S (mt U hold) (List.range n)
    have h1 : cnt n (fun q => S q && mt U hold q) ≤ nb U W n fun q => S q && mt U hold q := by
      refine matched_le hU G.mat fun q _ hq => ?_
      rw [Bool.and_eq_true] at hq
      obtain ⟨c, _, hc⟩ := mt_iff.mp hq.2
      exact ⟨c, hc⟩
    have h2 : nb U W n (fun q => S q && mt U hold q) ≤ nb U W n S := by
      refine List.countP_mono_left fun c _ hc => ?_
      obtain ⟨q, hq, hs, hw⟩ := nbp_iff.mp hc
      rw [Bool.and_eq_true] at hs
      exact nbp_iff.mpr ⟨q, hq, hs.1, hw⟩
    have h3 : (List.range n).countP (fun q => S q && !mt U hold q) ≤ (List.range n).countP fun q => !mt U hold q := by
      refine List.countP_mono_left fun q _ hq => ?_
      rw [Bool.and_eq_true] at hq
      exact hq.2
    have h4 := count_split (fun _ => true) (mt U hold) (List.range n)
    simp only [Bool.true_and, List.countP_true, List.length_range] at h4
    rw [G.num] at h4
    unfold cnt at *
    omega
theorem IsDef.uniq {U : List Nat} {W : Nat → List Nat} {n u v : Nat} (a : IsDef U W n u) (b : IsDef U W n v) : u = v := by
  obtain ⟨R, hR⟩ := a.some
  obtain ⟨S, hS⟩ := b.some
  have := a.all S
  have := b.all R
  omega
end Cg

end
section
set_option Elab.async false
namespace Cg
open Km437
theorem mem_parts : ∀ (l r : List Nat), r ∈ parts l ↔ r.Sublist l
  | [], r => by
    unfold parts
    rw [List.mem_singleton, List.sublist_nil]
  | x :: l, r => by
    unfold parts
    rw [List.mem_append, mem_parts l r, List.mem_map, List.sublist_cons_iff]
    constructor
    · rintro (h | ⟨a, ha, rfl⟩)
      · exact .inl h
      · exact .inr ⟨a, rfl, (mem_parts l a).mp ha⟩
    · rintro (h | ⟨a, rfl, ha⟩)
      · exact .inl h
      · exact .inr ⟨a, (mem_parts l a).mpr ha, rfl⟩
theorem foldl_max_ge : ∀ (l : List Nat) (a : Nat), a ≤ l.foldl max a ∧ ∀ x, x ∈ l → x ≤ l.foldl max a
  | [], a => ⟨Nat.le_refl _, fun x h => by cases h⟩
  | y :: l, a => by
    have h := foldl_max_ge l (max a y)
    rw [List.foldl_cons]
    refine ⟨by omega, fun x hx => ?_⟩
    rcases List.mem_cons.mp hx with e | e
    · subst e
      omega
    · exact h.2 x e
theorem foldl_max_mem : ∀ (l : List Nat) (a : Nat), l.foldl max a = a ∨ l.foldl max a ∈ l
  | [], a => .inl rfl
  | y :: l, a => by
    rw [List.foldl_cons]
    rcases foldl_max_mem l (max a y) with h | h
    · rw [h]
      by_cases e : a ≤ y
      · exact .inr (by rw [Nat.max_eq_right e]; exact List.mem_cons_self)
      · exact .inl (Nat.max_eq_left (by omega))
    · exact .inr (List.mem_cons_of_mem _ h)
theorem filter_sub : ∀ {r l : List Nat}, r.Sublist l → l.Nodup → l.filter (fun x => r.contains x) = r
  | _, _, .slnil, _ => rfl
  | _, _, .cons a h, hn => by
    rename_i r l
    rw [List.nodup_cons] at hn
    rw [List.filter_cons, if_neg, filter_sub h hn.2]
    rw [List.contains_iff_mem]
    exact fun hm => hn.1 (h.subset hm)
  | _, _, .cons_cons a h, hn => by
    rename_i r l
    rw [List.nodup_cons] at hn
    rw [List.filter_cons, if_pos (by rw [List.contains_iff_mem]; exact List.mem_cons_self)]
    congr 1
    rw [← filter_sub h hn.2]
    refine List.filter_congr fun x hx => ?_
    have e : x ≠ a := fun e => by
      subst e
      exact hn.1 hx
    rw [filter_sub h hn.2, List.contains_cons]
    simp [e]
theorem range_getD (ps : List Nat) : (List.range ps.length).map (fun i => ps.getD i 0) = ps := by
  refine List.ext_getElem (by simp) fun i h1 h2 => ?_
  rw [List.getElem_map, List.getElem_range, List.getD_eq_getElem?_getD, List.getElem?_eq_getElem h2]
  rfl
/-- the lists W hold, for each place, what does for the party there -/
def Does (s : Ship) (ps ks : List Nat) (W : Nat → List Nat) : Prop := ∀ i, i < ps.length → ∀ c, c ∈ W i ↔ c ∈ ks ∧ does (s.cabin c) (s.party (ps.getD i 0)) = true
theorem without_def {s : Ship} {ps ks : List Nat} {W : Nat → List Nat} (np : ps.Nodup) (hW : Does s ps ks W) : IsDef ks W ps.length (s.without ps ks) := by
  have near_eq : ∀ (r : List Nat) (S : Nat → Bool), (∀ p, p ∈ r ↔ ∃ i, i < ps.length ∧ S i = true ∧ ps.getD i 0 = p) → (s.near r ks).length = nb ks W ps.length S := by
    intro r S h
    unfold Ship.near nb
    rw [← List.countP_eq_length_filter]
    refine List.countP_congr fun c hc => ?_
    rw [nbp_iff, List.any_eq_true]
    constructor
    · rintro ⟨p, hp, hd⟩
      obtain ⟨i, hi, hs, rfl⟩ := (h p).mp hp
      exact ⟨i, hi, hs, (hW i hi c).mpr ⟨hc, hd⟩⟩
    · rintro ⟨i, hi, hs, hw⟩
      exact ⟨_, (h _).mpr ⟨i, hi, hs, rfl⟩, ((hW i hi c).mp hw).2⟩
  have ge := foldl_max_ge ((parts ps).map fun r => r.length - (s.near r ks).length) 0
  have mem := foldl_max_mem ((parts ps).map fun r => r.length - (s.near r ks).length) 0
  change _ ∧ ∀ x, x ∈ _ → x ≤ s.without ps ks at ge
  change s.without ps ks = 0 ∨ s.without ps ks ∈ _ at mem
  constructor
  · have zero : s.without ps ks = 0 → ∃ R : Nat → Bool, s.without ps ks + nb ks W ps.length R ≤ cnt ps.length R := fun e => by
      refine ⟨fun _ => false, ?_⟩
      have : nb ks W ps.length (fun _ => false) = 0 := by
        unfold nb
        rw [List.countP_eq_zero]
        intro c _ h
        obtain ⟨q, _, h, _⟩ := nbp_iff.mp h
        cases h
      rw [this, e]
      exact Nat.zero_le _
    rcases mem with e | e
    · exact zero e
    · obtain ⟨r, hr, er⟩ := List.mem_map.mp e
      rw [mem_parts] at hr
      by_cases z : s.without ps ks = 0
      · exact zero z
      · refine ⟨fun i => r.contains (ps.getD i 0), ?_⟩
        have e1 := near_eq r (fun i => r.contains (ps.getD i 0)) (fun p => by
          constructor
          · intro hp
            obtain ⟨i, hi, e⟩ := List.getElem_of_mem (hr.subset hp)
            have e' : ps.getD i 0 = p := by rw [List.getD_eq_getElem?_getD, List.getElem?_eq_getElem hi, e]; rfl
            exact ⟨i, hi, by rw [e', List.contains_iff_mem]; exact hp, e'⟩
          · rintro ⟨i, hi, h, rfl⟩
            rw [List.contains_iff_mem] at h
            exact h)
        have e2 : cnt ps.length (fun i => r.contains (ps.getD i 0)) = r.length := by
          unfold cnt
          have := List.countP_map (p := fun x => r.contains x) (f := fun i => ps.getD i 0) (l := List.range ps.length)
          rw [range_getD, List.countP_eq_length_filter, filter_sub hr np] at this
          exact this.symm
        omega
  · intro S
    let r := ((List.range ps.length).filter S).map fun i => ps.getD i 0
    have hr : r.Sublist ps := by
      have h : r.Sublist ((List.range ps.length).map fun i => ps.getD i 0) := List.Sublist.map _ List.filter_sublist
      rw [range_getD] at h
      exact h
    have h := ge.2 _ (List.mem_map.mpr ⟨r, (mem_parts ps r).mpr hr, rfl⟩)
    have e1 := near_eq r S (fun p => by
      show p ∈ ((List.range ps.length).filter S).map _ ↔ _
      rw [List.mem_map]
      constructor
      · rintro ⟨i, hi, e⟩
        rw [List.mem_filter, List.mem_range] at hi
        exact ⟨i, hi.1, hi.2, e⟩
      · rintro ⟨i, h1, h2, e⟩
        exact ⟨i, by rw [List.mem_filter, List.mem_range]; exact ⟨h1, h2⟩, e⟩)
    have e2 : r.length = cnt ps.length S := by
      show (((List.range ps.length).filter S).map _).length = _
      rw [List.length_map, ← List.countP_eq_length_filter]
      rfl
    omega
theorem IsDef.le {U : List Nat} {W : Nat → List Nat} {n u : Nat} (a : IsDef U W n u) : u ≤ n := by
  obtain ⟨R, hR⟩ := a.some
  have : cnt n R ≤ n := Nat.le_trans List.countP_le_length (by simp)
  omega
/-- **The search houses as many as the document says.** -/
theorem housed_most {s : Ship} {ps ks : List Nat} {W : Nat → List Nat} {f : Nat} (np : ps.Nodup) (nk : ks.Nodup) (hf : ks.length < f) (hU : ∀ q c, c ∈ W q → c ∈ ks) (hW : Does s ps ks W) :
    (mostTo W f ps.length).2 = s.housed ps ks := by
  obtain ⟨h1, h2⟩ := most_def (n := ps.length) nk hU hf
  have h3 := (without_def np hW).uniq h2
  unfold Ship.housed
  omega
/-- with one more and a cabin that does for it one more at least is housed -/
theorem housed_more {s : Ship} {p : Nat} {ps ks : List Nat} {c : Nat} (np : (p :: ps).Nodup) (hc : c ∈ ks) (hd : does (s.cabin c) (s.party p) = true) :
    s.housed ps (ks.filter fun x => x != c) + 1 ≤ s.housed (p :: ps) ks := by
  have hW1 : Does s (p :: ps) ks (fun i => ks.filter fun c => does (s.cabin c) (s.party ((p :: ps).getD i 0))) := fun i _ c => List.mem_filter
  have hW2 : Does s ps (ks.filter fun x => x != c) (fun i => (ks.filter fun x => x != c).filter fun c => does (s.cabin c) (s.party (ps.getD i 0))) := fun i _ c => List.mem_filter
  have A := without_def np hW1
  have B := without_def (List.nodup_cons.mp np).2 hW2
  have lA := A.le
  have lB := B.le
  obtain ⟨R, hR⟩ := A.some
  have hB := B.all fun i => R (i + 1)
  have key : s.without (p :: ps) ks ≤ s.without ps (ks.filter fun x => x != c) := by
    generalize hWA : (fun i => ks.filter fun c => does (s.cabin c) (s.party ((p :: ps).getD i 0))) = WA at *
    generalize hWB : (fun i => (ks.filter fun x => x != c).filter fun c => does (s.cabin c) (s.party (ps.getD i 0))) = WB at *
    have e1 : cnt (ps.length + 1) R = (if R 0 = true then 1 else 0) + cnt ps.length fun i => R (i + 1) := by
      unfold cnt
      rw [List.range_succ_eq_map, List.countP_cons, List.countP_map]
      show _ + _ = _
      rw [Nat.add_comm]
      rfl
    have sub : ∀ d, nbp WB ps.length (fun i => R (i + 1)) d = true → nbp WA (ps.length + 1) R d = true := fun d h => by
      obtain ⟨i, hi, hs, hw⟩ := nbp_iff.mp h
      refine nbp_iff.mpr ⟨i + 1, by omega, hs, ?_⟩
      rw [(hW2 i hi d)] at hw
      refine (hW1 (i + 1) (by rw [List.length_cons]; omega) d).mpr ⟨(List.mem_filter.mp hw.1).1, hw.2⟩
    have e2 : (if R 0 = true then 1 else 0) + nb (ks.filter fun x => x != c) WB ps.length (fun i => R (i + 1)) ≤ nb ks WA (ps.length + 1) R := by
      unfold nb
      rw [List.countP_filter]
      by_cases h0 : R 0 = true
      · rw [if_pos h0]
        have hcA : nbp WA (ps.length + 1) R c = true := nbp_iff.mpr ⟨0, by omega, h0, (hW1 0 (by rw [List.length_cons]; omega) c).mpr ⟨hc, hd⟩⟩
        have : ∀ (L : List Nat), c ∈ L → 1 + L.countP (fun a => nbp WB ps.length (fun i => R (i + 1)) a && (a != c)) ≤ L.countP (nbp WA (ps.length + 1) R) := by
          intro L hL
          induction L with
          | nil => cases hL
          | cons a l ih =>
            rw [List.countP_cons, List.countP_cons]
            by_cases e : a = c
            · subst e
              have : l.countP (fun b => nbp WB ps.length (fun i => R (i + 1)) b && (b != a)) ≤ l.countP (nbp WA (ps.length + 1) R) :=
                List.countP_mono_left fun x _ hx => sub x (by rw [Bool.and_eq_true] at hx; exact hx.1)
              rw [if_pos hcA, if_neg (by simp)]
              omega
            · have := ih (by
                rcases List.mem_cons.mp hL with q | q
                · exact absurd q.symm e
                · exact q)
              by_cases h : (nbp WB ps.length (fun i => R (i + 1)) a && (a != c)) = true
              · rw [if_pos h, if_pos (sub a (by rw [Bool.and_eq_true] at h; exact h.1))]
                omega
              · rw [if_neg h]
                omega
        exact this ks hc
      · rw [if_neg h0, Nat.zero_add]
        exact List.countP_mono_left fun x _ hx => sub x (by rw [Bool.and_eq_true] at hx; exact hx.1)
    have e3 : (p :: ps).length = ps.length + 1 := rfl
    rw [e3] at hR
    omega
  unfold Ship.housed
  rw [List.length_cons] at *
  omega
end Cg

end
section
set_option Elab.async false
namespace Cg
open Km437
/-! ## housing.py over plain lists -/
def wAt (W : List (List Nat)) (i : Nat) : List Nat := W.getD i []
def mostL (W : List (List Nat)) : Nat := (mostTo (wAt W) 13 W.length).2
def dropC (W : List (List Nat)) (c : Nat) : List (List Nat) := W.map fun w => w.filter fun k => k != c
def bestL (w : List Nat) (b : List (List Nat)) : Option Nat := w.find? fun c => 1 + mostL (dropC b c) == mostL (w :: b)
def leftL (b : List (List Nat)) : Option Nat → List (List Nat)
  | none => b
  | some c => dropC b c
theorem leftL_len (b : List (List Nat)) (o : Option Nat) : (leftL b o).length = b.length := by
  cases o with
  | none => rfl
  | some c => exact List.length_map _
def plannedF : Nat → List (List Nat) → List (Option Nat)
  | 0, _ => []
  | _ + 1, [] => []
  | n + 1, w :: b => bestL w b :: plannedF n (leftL b (bestL w b))
/-! ## The order of the cabins: the least class, the fewest berths, the least number -/
def ltc (s : Ship) (a b : Nat) : Prop := (s.cabin a).rank < (s.cabin b).rank ∨ (s.cabin a).rank = (s.cabin b).rank ∧ ((s.cabin a).berths < (s.cabin b).berths ∨ (s.cabin a).berths = (s.cabin b).berths ∧ a < b)
theorem ltc_asymm {s : Ship} {a b : Nat} (h : ltc s a b) (h' : ltc s b a) : False := by
  unfold ltc at h h'
  omega
/-- the cabins ks in that order -/
structure Ord (s : Ship) (ks os : List Nat) : Prop where
  mem : ∀ c, c ∈ os ↔ c ∈ ks
  srt : os.Pairwise (ltc s)
theorem Ord.drop {s : Ship} {ks os : List Nat} (h : Ord s ks os) (c : Nat) : Ord s (ks.filter fun x => x != c) (os.filter fun x => x != c) :=
  ⟨fun d => by rw [List.mem_filter, List.mem_filter, h.mem d], h.srt.sublist List.filter_sublist⟩
theorem find_least {s : Ship} {P : Nat → Bool} : ∀ {os : List Nat}, os.Pairwise (ltc s) → ∀ {j}, os.find? P = some j → j ∈ os ∧ P j = true ∧ ∀ k, k ∈ os → P k = true → k = j ∨ ltc s j k
  | [], _, j, h => by cases h
  | a :: l, hs, j, h => by
    rw [List.pairwise_cons] at hs
    rw [List.find?_cons] at h
    cases e : P a with
    | true =>
      rw [e] at h
      have := Option.some.inj h
      subst this
      refine ⟨List.mem_cons_self, e, fun k hk _ => ?_⟩
      rcases List.mem_cons.mp hk with q | q
      · exact .inl q
      · exact .inr (hs.1 k q)
    | false =>
      rw [e] at h
      obtain ⟨h1, h2, h3⟩ := find_least hs.2 h
      refine ⟨List.mem_cons_of_mem _ h1, h2, fun k hk hP => ?_⟩
      rcases List.mem_cons.mp hk with q | q
      · subst q
        rw [e] at hP
        cases hP
      · exact h3 k q hP
def pickF (s : Ship) (P : Nat → Bool) (r : Option Nat) (k : Nat) : Option Nat := if P k = false then r else match r with
  | none => some k
  | some j => if better (s.cabin k) (s.cabin j) = true then some k else some j
theorem pickF_least {s : Ship} {P : Nat → Bool} : ∀ (l pre : List Nat) (r : Option Nat), (pre ++ l).Pairwise (· < ·) →
    ((r = none ∧ ∀ k, k ∈ pre → P k = false) ∨ ∃ j, r = some j ∧ j ∈ pre ∧ P j = true ∧ ∀ k, k ∈ pre → P k = true → k = j ∨ ltc s j k) →
    ((l.foldl (pickF s P) r = none ∧ ∀ k, k ∈ pre ++ l → P k = false) ∨ ∃ j, l.foldl (pickF s P) r = some j ∧ j ∈ pre ++ l ∧ P j = true ∧ ∀ k, k ∈ pre ++ l → P k = true → k = j ∨ ltc s j k)
  | [], pre, r, _, h => by
    rw [List.append_nil]
    exact h
  | x :: l, pre, r, hp, h => by
    have e : pre ++ x :: l = (pre ++ [x]) ++ l := by simp
    rw [e] at hp ⊢
    rw [List.foldl_cons]
    refine pickF_least l (pre ++ [x]) _ hp ?_
    have hx : ∀ k, k ∈ pre → k < x := fun k hk => by
      have := (List.pairwise_append.mp (List.pairwise_append.mp hp).1).2.2 k hk x List.mem_cons_self
      exact this
    unfold pickF
    cases eP : P x with
    | false =>
      rw [if_pos rfl]
      rcases h with ⟨h1, h2⟩ | ⟨j, h1, h2, h3, h4⟩
      · refine .inl ⟨h1, fun k hk => ?_⟩
        rcases List.mem_append.mp hk with q | q
        · exact h2 k q
        · rw [List.mem_singleton.mp q, eP]
      · refine .inr ⟨j, h1, List.mem_append_left _ h2, h3, fun k hk hk' => ?_⟩
        rcases List.mem_append.mp hk with q | q
        · exact h4 k q hk'
        · rw [List.mem_singleton.mp q, eP] at hk'
          cases hk'
    | true =>
      rw [if_neg (by simp)]
      rcases h with ⟨h1, h2⟩ | ⟨j, h1, h2, h3, h4⟩
      · subst h1
        refine .inr ⟨x, rfl, List.mem_append_right _ List.mem_cons_self, eP, fun k hk hk' => ?_⟩
        rcases List.mem_append.mp hk with q | q
        · rw [h2 k q] at hk'
          cases hk'
        · exact .inl (List.mem_singleton.mp q)
      · subst h1
        have hjx := hx j h2
        cases eb : better (s.cabin x) (s.cabin j) with
        | true =>
          have eb' := eb
          simp only [better, Bool.or_eq_true, Bool.and_eq_true, decide_eq_true_eq, beq_iff_eq] at eb'
          refine .inr ⟨x, by simp [eb], List.mem_append_right _ List.mem_cons_self, eP, fun k hk hk' => ?_⟩
          rcases List.mem_append.mp hk with q | q
          · refine .inr ?_
            rcases h4 k q hk' with z | z
            · subst z
              unfold ltc
              omega
            · unfold ltc at z ⊢
              omega
          · exact .inl (List.mem_singleton.mp q)
        | false =>
          have eb' : ¬ better (s.cabin x) (s.cabin j) = true := by rw [eb]; simp
          simp only [better, Bool.or_eq_true, Bool.and_eq_true, decide_eq_true_eq, beq_iff_eq] at eb'
          refine .inr ⟨j, by simp [eb], List.mem_append_left _ h2, h3, fun k hk hk' => ?_⟩
          rcases List.mem_append.mp hk with q | q
          · exact h4 k q hk'
          · refine .inr ?_
            rw [List.mem_singleton.mp q]
            unfold ltc
            omega
theorem pick_find {s : Ship} {P : Nat → Bool} {ks os : List Nat} (hk : ks.Pairwise (· < ·)) (ho : Ord s ks os) : ks.foldl (pickF s P) none = os.find? P := by
  have h := pickF_least (s := s) (P := P) ks [] none hk (.inl ⟨rfl, fun k hk => by cases hk⟩)
  rw [List.nil_append] at h
  cases e : os.find? P with
  | none =>
    rw [List.find?_eq_none] at e
    rcases h with ⟨h1, _⟩ | ⟨j, _, h2, h3, _⟩
    · exact h1
    · exact absurd h3 (e j ((ho.mem j).mpr h2))
  | some j =>
    obtain ⟨e1, e2, e3⟩ := find_least ho.srt e
    rcases h with ⟨_, h2⟩ | ⟨i, h1, h2, h3, h4⟩
    · rw [h2 j ((ho.mem j).mp e1)] at e2
      cases e2
    · rw [h1]
      congr 1
      rcases h4 j ((ho.mem j).mp e1) e2 with z | z
      · exact z.symm
      · rcases e3 i ((ho.mem i).mpr h2) h3 with y | y
        · exact y
        · exact (ltc_asymm z y).elim
/-! ## The plan -/
def wishL (s : Ship) (os : List Nat) (p : Nat) : List Nat := os.filter fun c => does (s.cabin c) (s.party p)
theorem wAt_map {s : Ship} {os ps : List Nat} : ∀ i, wAt (ps.map (wishL s os)) i = if i < ps.length then wishL s os (ps.getD i 0) else [] := fun i => by
  unfold wAt
  rw [List.getD_eq_getElem?_getD, List.getElem?_map, List.getD_eq_getElem?_getD]
  by_cases h : i < ps.length
  · rw [if_pos h, List.getElem?_eq_getElem h]
    rfl
  · rw [if_neg h, List.getElem?_eq_none (by omega)]
    rfl
/-- what most_housed gives of the wishes is how many can be housed -/
theorem mostL_housed {s : Ship} {ps ks os : List Nat} (np : ps.Nodup) (nk : ks.Nodup) (hk : ks.length ≤ 12) (ho : ∀ c, c ∈ os ↔ c ∈ ks) : mostL (ps.map (wishL s os)) = s.housed ps ks := by
  unfold mostL
  rw [List.length_map]
  refine housed_most np nk (by omega) (fun q c h => ?_) (fun i hi c => ?_)
  · rw [wAt_map] at h
    by_cases e : q < ps.length
    · rw [if_pos e] at h
      exact (ho c).mp (List.mem_filter.mp h).1
    · rw [if_neg e] at h
      cases h
  · rw [wAt_map, if_pos hi]
    unfold wishL
    rw [List.mem_filter, ho c]
theorem dropC_map {s : Ship} {os ps : List Nat} {c : Nat} : dropC (ps.map (wishL s os)) c = ps.map (wishL s (os.filter fun x => x != c)) := by
  unfold dropC
  rw [List.map_map]
  refine List.map_congr_left fun p _ => ?_
  show (os.filter _).filter _ = (os.filter _).filter _
  rw [List.filter_filter, List.filter_filter]
  refine List.filter_congr fun x _ => ?_
  rw [Bool.and_comm]
theorem pick_best {s : Ship} {p : Nat} {ps ks os : List Nat} (np : (p :: ps).Nodup) (hk : ks.Pairwise (· < ·)) (hl : ks.length ≤ 12) (ho : Ord s ks os) :
    s.pick p ps ks (s.housed (p :: ps) ks) = bestL (wishL s os p) (ps.map (wishL s os)) := by
  have nk : ks.Nodup := hk.imp fun h => Nat.ne_of_lt h
  have nps := (List.nodup_cons.mp np).2
  let P : Nat → Bool := fun k => does (s.cabin k) (s.party p) && !decide (s.housed ps (ks.filter fun x => x != k) + 1 < s.housed (p :: ps) ks)
  have e1 : s.pick p ps ks (s.housed (p :: ps) ks) = ks.foldl (pickF s P) none := by
    unfold Ship.pick
    congr 1
    funext r k
    unfold pickF
    by_cases h : does (s.cabin k) (s.party p) = false ∨ s.housed ps (ks.filter fun x => x != k) + 1 < s.housed (p :: ps) ks
    · rw [if_pos h, if_pos]
      show (does (s.cabin k) (s.party p) && !decide (s.housed ps (ks.filter fun x => x != k) + 1 < s.housed (p :: ps) ks)) = false
      rcases h with h | h
      · rw [h]
        rfl
      · rw [decide_eq_true h]
        simp
    · have hn : ¬ P k = false := by
        show ¬ (does (s.cabin k) (s.party p) && !decide (s.housed ps (ks.filter fun x => x != k) + 1 < s.housed (p :: ps) ks)) = false
        rw [not_or] at h
        rw [decide_eq_false h.2]
        simpa using h.1
      rw [if_neg h, if_neg hn]
      cases r <;> rfl
  rw [e1, pick_find hk ho]
  show _ = (os.filter fun c => does (s.cabin c) (s.party p)).find? fun c => 1 + mostL (dropC (ps.map (wishL s os)) c) == mostL (wishL s os p :: ps.map (wishL s os))
  rw [List.find?_filter]
  have mem := ho.mem
  have fc : ∀ {l : List Nat} {p q : Nat → Bool}, (∀ x, x ∈ l → p x = q x) → l.find? p = l.find? q := by
    intro l p q h
    induction l with
    | nil => rfl
    | cons a l ih =>
      rw [List.find?_cons, List.find?_cons, h a List.mem_cons_self, ih fun x hx => h x (List.mem_cons_of_mem _ hx)]
  refine fc fun c hc => ?_
  show (does (s.cabin c) (s.party p) && !decide (s.housed ps (ks.filter fun x => x != c) + 1 < s.housed (p :: ps) ks)) = _
  have h2 : mostL (dropC (ps.map (wishL s os)) c) = s.housed ps (ks.filter fun x => x != c) := by
    rw [dropC_map]
    exact mostL_housed nps (nodup_filter _ nk) (Nat.le_trans (List.length_filter_le _ _) hl) (ho.drop c).mem
  have h3 : mostL (wishL s os p :: ps.map (wishL s os)) = s.housed (p :: ps) ks := mostL_housed (ps := p :: ps) np nk hl mem
  rw [h2, h3, Bool.eq_iff_iff]
  simp only [Bool.and_eq_true, decide_eq_true_eq, Bool.not_eq_true', decide_eq_false_iff_not, beq_iff_eq]
  constructor
  · rintro ⟨hd, h⟩
    have h1 := housed_more np ((mem c).mp hc) hd
    exact ⟨hd, by omega⟩
  · rintro ⟨hd, h⟩
    exact ⟨hd, by omega⟩
/-- those that get one, with their cabins -/
def gets : List Nat → List (Option Nat) → List (Nat × Nat)
  | p :: ps, some k :: os => (p, k) :: gets ps os
  | _ :: ps, none :: os => gets ps os
  | _, _ => []
/-- **The plan of housing.py is the document's.** -/
theorem plan_gets {s : Ship} : ∀ (ps ks os : List Nat) (n : Nat), ps.length ≤ n → ps.Nodup → ks.Pairwise (· < ·) → ks.length ≤ 12 → Ord s ks os → s.plan ps ks = gets ps (plannedF n (ps.map (wishL s os)))
  | [], ks, os, n, _, _, _, _, _ => by
    cases n <;> rfl
  | p :: ps, ks, os, 0, h, _, _, _, _ => absurd h (by simp)
  | p :: ps, ks, os, n + 1, h, np, hk, hl, ho => by
    have nps := (List.nodup_cons.mp np).2
    have hn : ps.length ≤ n := by rw [List.length_cons] at h; omega
    show (match s.pick p ps ks (s.housed (p :: ps) ks) with
      | none => s.plan ps ks
      | some k => (p, k) :: s.plan ps (ks.filter fun x => x != k)) = gets (p :: ps) (bestL (wishL s os p) (ps.map (wishL s os)) :: plannedF n (leftL (ps.map (wishL s os)) (bestL (wishL s os p) (ps.map (wishL s os)))))
    rw [pick_best np hk hl ho]
    cases bestL (wishL s os p) (ps.map (wishL s os)) with
    | none =>
      show s.plan ps ks = gets ps (plannedF n (ps.map (wishL s os)))
      exact plan_gets ps ks os n hn nps hk hl ho
    | some k =>
      show (p, k) :: s.plan ps (ks.filter fun x => x != k) = (p, k) :: gets ps (plannedF n (dropC (ps.map (wishL s os)) k))
      rw [dropC_map, plan_gets ps (ks.filter fun x => x != k) (os.filter fun x => x != k) n hn nps (hk.sublist List.filter_sublist) (Nat.le_trans (List.length_filter_le _ _) hl) (ho.drop k)]
end Cg

end
section
set_option Elab.async false
set_option linter.all false
set_option maxRecDepth 100000
set_option maxHeartbeats 2000000
namespace Cg
open PySem PySem.Spec PyProof.Rows L2
/-! ## The text by places -/
def top (i : Nat) : Stmt := PySem.Challenge.pw_cabinsgiven_s01_answers.main.body.getD i (.Pass ⟨0, 0, 0, 0⟩)
abbrev sMost : Stmt := top 18
abbrev sFind : Stmt := top 19
abbrev sOthers : Stmt := top 20
abbrev sWithout : Stmt := top 21
abbrev sBest : Stmt := top 22
abbrev sPlanned : Stmt := top 23
/-! ## Mirror facts -/
theorem scan_more {rec : Nat → KS → Bool × KS} (hr : ∀ q s c, s.tried c = true → (rec q s).2.tried c = true) (p : Nat) : ∀ (l : List Nat) (s : KS) (c : Nat), s.tried c = true → (scan rec p l s).2.tried c = true
  | [], _, _, h => h
  | d :: r, s, c, h => by
    have hm : (s.mark d).tried c = true := by
      by_cases e : c = d
      · simp [KS.mark, e]
      · simp [KS.mark, e, h]
    unfold scan
    by_cases ht : s.tried d = true
    · rw [if_pos ht]
      exact scan_more hr p r s c h
    · rw [if_neg ht]
      cases hq : s.hold d with
      | none => exact hm
      | some q =>
        dsimp only
        by_cases hb : (rec q (s.mark d)).1 = true
        · rw [if_pos hb]
          exact hr q _ c hm
        · rw [if_neg hb]
          exact scan_more hr p r _ c (hr q _ c hm)
theorem find_more {W : Nat → List Nat} : ∀ (f p : Nat) (s : KS) (c : Nat), s.tried c = true → (find W f p s).2.tried c = true
  | 0, _, _, _, h => h
  | f + 1, p, s, c, h => scan_more (fun q s c h => find_more f q s c h) p (W p) s c h
theorem scan_lt {n : Nat} {rec : Nat → KS → Bool × KS} (hr : ∀ q s, q < n → (∀ c x, s.hold c = some x → x < n) → ∀ c x, (rec q s).2.hold c = some x → x < n) {p : Nat} (hp : p < n) :
    ∀ (l : List Nat) (s : KS), (∀ c x, s.hold c = some x → x < n) → ∀ c x, (scan rec p l s).2.hold c = some x → x < n
  | [], _, h => h
  | d :: r, s, h => by
    unfold scan
    by_cases ht : s.tried d = true
    · rw [if_pos ht]
      exact scan_lt hr hp r s h
    · rw [if_neg ht]
      have put : ∀ s' : KS, (∀ c x, s'.hold c = some x → x < n) → ∀ c x, (s'.put d p).hold c = some x → x < n := fun s' h' c x hc => by
        have hc : (if c = d then some p else s'.hold c) = some x := hc
        by_cases e : c = d
        · rw [if_pos e] at hc
          rw [← Option.some.inj hc]
          exact hp
        · rw [if_neg e] at hc
          exact h' c x hc
      cases hq : s.hold d with
      | none => exact put (s.mark d) h
      | some q =>
        dsimp only
        have h2 := hr q (s.mark d) (h d q hq) h
        by_cases hb : (rec q (s.mark d)).1 = true
        · rw [if_pos hb]
          exact put _ h2
        · rw [if_neg hb]
          exact scan_lt hr hp r _ h2
theorem find_lt {W : Nat → List Nat} {n : Nat} : ∀ (f p : Nat) (s : KS), p < n → (∀ c x, s.hold c = some x → x < n) → ∀ c x, (find W f p s).2.hold c = some x → x < n
  | 0, _, _, _, h => h
  | f + 1, p, s, hp, h => scan_lt (fun q s hq h => find_lt f q s hq h) hp (W p) s h
theorem yes {b : Bool} {A B : Prop} (hb : b = true) (h : A) : if b = true then A else B := by
  rw [if_pos hb]
  exact h
theorem no {b : Bool} {A B : Prop} (hb : b = false) (h : B) : if b = true then A else B := by
  rw [if_neg (by rw [hb]; exact Bool.false_ne_true)]
  exact h
/-! ## Lists and dicts of whole numbers on the heap -/
def nV (n : Nat) : V := .int (n : Int)
def LstN (H : Hp) (a : Addr) (w : List Nat) : Prop := H a = some (.lst (w.map nV))
def Items (H : Hp) (as : List Addr) (W : List (List Nat)) : Prop := as.length = W.length ∧ ∀ (i : Nat) (b : Addr) (w : List Nat), as[i]? = some b → W[i]? = some w → LstN H b w
def Rows (H : Hp) (a : Addr) (W : List (List Nat)) : Prop := ∃ as : List Addr, H a = some (.lst (as.map V.ref)) ∧ Items H as W
theorem Items.keep {H H' : Hp} {as : List Addr} {W : List (List Nat)} (h : Items H as W) (k : ∀ b xs, H b = some (.lst xs) → H' b = some (.lst xs)) : Items H' as W := ⟨h.1, fun i b w e1 e2 => k b _ (h.2 i b w e1 e2)⟩
theorem Rows.keep {H H' : Hp} {a : Addr} {W : List (List Nat)} (h : Rows H a W) (k : ∀ b xs, H b = some (.lst xs) → H' b = some (.lst xs)) : Rows H' a W := by
  obtain ⟨as, h1, h2⟩ := h
  exact ⟨as, k a _ h1, h2.keep k⟩
theorem Items.at_ {H : Hp} {as : List Addr} {W : List (List Nat)} (h : Items H as W) {i : Nat} (hi : i < W.length) : ∃ b w, as[i]? = some b ∧ W[i]? = some w ∧ LstN H b w := by
  have hi' : i < as.length := by rw [h.1]; exact hi
  exact ⟨as[i], W[i], List.getElem?_eq_getElem hi', List.getElem?_eq_getElem hi, h.2 i _ _ (List.getElem?_eq_getElem hi') (List.getElem?_eq_getElem hi)⟩
theorem nV_inj {a b : Nat} (h : nV a = nV b) : a = b := by
  have h : V.int (a : Int) = V.int (b : Int) := h
  have := V.int.inj h
  omega
theorem map_nV {w : List Nat} {i : Nat} {y : V} (h : (w.map nV)[i]? = some y) : ∃ c, w[i]? = some c ∧ y = nV c := by
  rw [List.getElem?_map] at h
  cases e : w[i]? with
  | none =>
    rw [e] at h
    cases h
  | some c =>
    rw [e] at h
    exact ⟨c, rfl, (Option.some.inj h).symm⟩
structure Low (kvs : List (Key × V)) : Prop where
  nd : (kvs.map (·.1)).Nodup
  low : ∀ k, k ∈ kvs.map (·.1) → ∃ c : Nat, c < 12 ∧ k = Sum.inl (c : Int)
theorem Low.len {kvs : List (Key × V)} (h : Low kvs) : kvs.length ≤ 12 := by
  have h1 : (kvs.map (·.1)).length ≤ ((List.range 12).map fun c : Nat => (Sum.inl (c : Int) : Key)).length :=
    List.Nodup.length_le_of_subset h.nd fun k hk => by
      obtain ⟨c, hc, rfl⟩ := h.low k hk
      exact List.mem_map.mpr ⟨c, List.mem_range.mpr hc, rfl⟩
  simpa using h1
theorem Low.size {kvs : List (Key × V)} (h : Low kvs) : kvs.length < sizeLine := small1000 (Nat.le_trans h.len (by decide))
theorem keys_old {kvs : List (Key × V)} {k : Key} {v x : V} (h : valV kvs k = some x) : (putK kvs k v).map (·.1) = kvs.map (·.1) := by
  have h1 : (kvs.any fun kv => decide (kv.1 = k)) = true := by rw [valV_any, h]; rfl
  unfold putK
  rw [if_pos h1, List.map_map]
  refine List.map_congr_left fun p _ => ?_
  show (if p.1 = k then (p.1, v) else p).1 = p.1
  split <;> rfl
theorem Low.put {kvs : List (Key × V)} (h : Low kvs) {c : Nat} (hc : c < 12) (v : V) : Low (putK kvs (Sum.inl (c : Int)) v) := by
  cases e : valV kvs (Sum.inl (c : Int) : Key) with
  | some x =>
    have := keys_old (v := v) e
    exact ⟨by rw [this]; exact h.nd, by rw [this]; exact h.low⟩
  | none =>
    refine ⟨nd_putK v h.nd e, fun k hk => ?_⟩
    rw [putK_new v e, List.map_append] at hk
    rcases List.mem_append.mp hk with q | q
    · exact h.low k q
    · exact ⟨c, hc, List.mem_singleton.mp q⟩
theorem Low.nil : Low [] := ⟨List.nodup_nil, fun k hk => by cases hk⟩
def DH (H : Hp) (d : Addr) (f : Nat → Option Nat) : Prop := ∃ kvs : List (Key × V), H d = some (.dK kvs) ∧ Low kvs ∧ ∀ c : Nat, valV kvs (Sum.inl (c : Int) : Key) = (f c).map nV
def DT (H : Hp) (d : Addr) (t : Nat → Bool) : Prop := ∃ kvs : List (Key × V), H d = some (.dK kvs) ∧ Low kvs ∧ ∀ c : Nat, valV kvs (Sum.inl (c : Int) : Key) = if t c = true then some (.bl true) else none
theorem inl_inj {a b : Nat} : (Sum.inl (a : Int) : Key) = Sum.inl (b : Int) ↔ a = b := by
  constructor
  · intro h
    have := Sum.inl.inj h
    omega
  · intro h
    rw [h]
/-! ## find_cabin -/
def spFind (n : Nat) : Sp := fun vs H Q _ => ∃ (p : Nat) (aw dh dt : Addr) (W : List (List Nat)) (s : KS), vs = [nV p, .ref aw, .ref dh, .ref dt] ∧ Rows H aw W ∧ p < W.length ∧ (∀ q c, c ∈ wAt W q → c < 12) ∧
  DH H dh s.hold ∧ DT H dt s.tried ∧ dh ≠ dt ∧ (∀ c q, s.hold c = some q → q < W.length) ∧ left (List.range 12) s < n ∧
  ∀ H' : Hp, DH H' dh (find (wAt W) n p s).2.hold → DT H' dt (find (wAt W) n p s).2.tried → (∀ b o, H b = some o → b ≠ dh → b ≠ dt → H' b = some o) → Q (.bl (find (wAt W) n p s).1) H'
section
variable {P : Program} {w : World} {K : PySem.W.Frag} {mg : Str → Option Value} {base : Heap}
theorem scFind : FnScope ["party", "wishes", "holders", "tried", "cabin"] ["party", "wishes", "holders", "tried"] (defScope sFind) := ⟨rfl, rfl, rfl, by decide +kernel, rfl, by decide +kernel, by decide +kernel⟩
theorem ok_find_step {f : Addr} {fd : FuncData} {n : Nat} (F : Fun K "find_cabin" "find_cabin" sFind f fd) (G : FnOk P w K mg base CX0 n f fd ["party", "wishes", "holders", "tried"] (spFind n)) (b : Binds K fd ["party", "wishes", "holders", "tried"] []) (mF : mg "find_cabin" = some (.ref f)) :
    FnOk P w K mg base CX0 (n + 1) f fd ["party", "wishes", "holders", "tried"] (spFind (n + 1)) := by
  refine F.ok scFind (fun vs H Q E h => ?_) (fun cdv A outer s H vs Q E hr h => ?_)
  · obtain ⟨p, aw, dh, dt, W, s, rfl, _⟩ := h
    rfl
  obtain ⟨p, aw, dh, dt, W, ks, rfl, hW, hp, h12, hH, hT, hne, hlt, hn, q⟩ := h
  have hu := hu_of hr
  refine ⟨_, pss_cons (ps_for PassesOwn.never rfl (pi_list (pe_ix ix_list (pv 1) (pv 0) (fun _ _ => rfl))) (pg_name (i := 4) scFind.nd rfl (Or.inl rfl))
    (pss_cons (ps_if (pt_cmp (pc_din hu (pv 4) (pv 3))) (pss_one ps_continue) pss_nil)
    (pss_cons (ps_dput hu (pv 3) (pv 4) pe_bl rfl)
    (pss_one (ps_if (PW.pt (pw_or (pt_cmp (pc_dnotin hu (pv 4) (pv 2))) (pw_or1 (pt_val (pe_call G hr rfl mF F.kp b .nil pass0 (pa_cons (pe_dget hu (pv 2) (pv 4) (fun _ _ => rfl)) (pa_cons (pv 1) (pa_cons (pv 2) (pa_cons (pv 3) pa_nil)))))))))
      (pss_cons (ps_dput hu (pv 2) (pv 4) (pv 0) rfl) (pss_one (ps_ret pe_bl))) pss_nil)))))
    (pss_one (ps_ret pe_bl)), ?_⟩
  obtain ⟨as, hA, hI⟩ := hW
  obtain ⟨bl, wl, e1, e2, hL⟩ := hI.at_ hp
  have ew : wAt W p = wl := by
    unfold wAt
    rw [List.getD_eq_getElem?_getD, e2]
    rfl
  have efind : find (wAt W) (n + 1) p ks = scan (find (wAt W) n) p wl ks := by
    show scan (find (wAt W) n) p (wAt W p) ks = _
    rw [ew]
  rw [efind] at q
  obtain ⟨R, hR⟩ : ∃ R, scan (find (wAt W) n) p wl ks = R := ⟨_, rfl⟩
  rw [hR] at q
  have hwl : ∀ c, c ∈ wl → c < 12 := fun c hc => h12 p c (by rw [ew]; exact hc)
  have naw : ∀ {H' : Hp}, (∀ b o, H b = some o → b ≠ dh → b ≠ dt → H' b = some o) → ∀ b xs, H b = some (.lst xs) → H' b = some (.lst xs) := fun {H'} k b xs e => by
    obtain ⟨kh, ekh, _⟩ := hH
    obtain ⟨kt, ekt, _⟩ := hT
    exact k b _ e (ne_of e ekh (by intro z; cases z)) (ne_of e ekt (by intro z; cases z))
  refine ⟨_, rfl, _, rfl, aw, _, _, _, rfl, rfl, SqL.of hA, atI_nat (by rw [List.getElem?_map, e1]; rfl), bl, rfl, ⟨_, SqL.of hL⟩, for_list (K := K) (a := bl) (xs := wl.map nV)
    (fun i σ H' => ∃ (v : Option V) (s' : KS), σ = [some (nV p), some (.ref aw), some (.ref dh), some (.ref dt), v] ∧ scan (find (wAt W) n) p (wl.drop i) s' = R ∧ DH H' dh s'.hold ∧ DT H' dt s'.tried ∧
      (∀ c q, s'.hold c = some q → q < W.length) ∧ left (List.range 12) s' ≤ left (List.range 12) ks ∧ ∀ b o, H b = some o → b ≠ dh → b ≠ dt → H' b = some o)
    ⟨none, ks, rfl, hR, hH, hT, hlt, Nat.le_refl _, fun _ _ e _ _ => e⟩ (fun i σ H' _ ⟨_, _, _, _, _, _, _, _, k⟩ => SqL.of (naw k _ _ hL)) ?_ ?_⟩
  · rintro i y σ H' hi ⟨v, s', rfl, hs, hH', hT', hlt', hn', k⟩
    obtain ⟨c, hc, rfl⟩ := map_nV hi
    have hc12 : c < 12 := hwl c (List.mem_of_getElem? hc)
    have hdrop : wl.drop i = c :: wl.drop (i + 1) := by
      obtain ⟨hlen, e⟩ := List.getElem?_eq_some_iff.mp hc
      rw [List.drop_eq_getElem_cons hlen, e]
    rw [hdrop] at hs
    obtain ⟨kt, ekt, lt, vt⟩ := hT'
    obtain ⟨kh, ekh, lh, vh⟩ := hH'
    refine ⟨_, rfl, _, rfl, dt, _, rfl, DGet.k (k := Sum.inl (c : Int)) ekt, _, rfl, ?_⟩
    rw [vt c]
    unfold scan at hs
    cases ht : s'.tried c with
    | true =>
      rw [if_pos ht] at hs
      refine yes rfl ?_
      exact ⟨_, s', rfl, hs, ⟨kh, ekh, lh, vh⟩, ⟨kt, ekt, lt, vt⟩, hlt', hn', k⟩
    | false =>
      rw [if_neg (by rw [ht]; simp)] at hs
      refine no rfl ?_
      refine ⟨_, rfl, _, rfl, dt, _, rfl, DPut.k (k := Sum.inl (c : Int)) ekt lt.size, ?_⟩
      have hT2 : DT (upd H' dt (.dK (putK kt (Sum.inl (c : Int)) (.bl true)))) dt (s'.mark c).tried := by
        refine ⟨_, upd_same, lt.put hc12 _, fun d => ?_⟩
        rw [valV_put]
        by_cases e : d = c
        · rw [if_pos (inl_inj.mpr e)]
          simp [KS.mark, e]
        · rw [if_neg (fun z => e (inl_inj.mp z)), vt d]
          simp [KS.mark, e]
      have ekh2 : (upd H' dt (.dK (putK kt (Sum.inl (c : Int)) (.bl true)))) dh = some (.dK kh) := by rw [upd_ne hne]; exact ekh
      have hlm : left (List.range 12) (s'.mark c) < left (List.range 12) s' := left_mark (List.mem_range.mpr hc12) ht
      have k2 : ∀ b o, H b = some o → b ≠ dh → b ≠ dt → (upd H' dt (.dK (putK kt (Sum.inl (c : Int)) (.bl true)))) b = some o := fun b o e n1 n2 => by
        rw [upd_ne n2]
        exact k b o e n1 n2
      refine ⟨_, rfl, _, rfl, dh, _, rfl, DGet.k (k := Sum.inl (c : Int)) ekh2, _, rfl, ?_⟩
      rw [vh c]
      cases hq : s'.hold c with
      | none =>
        rw [hq] at hs
        refine yes rfl (yes rfl ?_)
        refine ⟨_, rfl, _, rfl, _, rfl, dh, _, rfl, DPut.k (k := Sum.inl (c : Int)) ekh2 lh.size, ?_⟩
        have hs : (true, (s'.mark c).put c p) = R := hs
        rw [← hs] at q
        refine q _ ⟨_, upd_same, lh.put hc12 _, fun d => ?_⟩ ?_ (fun b o e n1 n2 => by rw [upd_ne n1]; exact k2 b o e n1 n2)
        · rw [valV_put]
          show _ = (if d = c then some p else s'.hold d).map nV
          by_cases e : d = c
          · rw [if_pos (inl_inj.mpr e), if_pos e]
            rfl
          · rw [if_neg (fun z => e (inl_inj.mp z)), if_neg e, vh d]
        · obtain ⟨kt2, e2, r2⟩ := hT2
          exact ⟨kt2, by rw [upd_ne (Ne.symm hne)]; exact e2, r2⟩
      | some x =>
        rw [hq] at hs
        dsimp only at hs
        refine no rfl ?_
        have hx : x < W.length := hlt' c x hq
        refine ⟨_, rfl, _, rfl, dh, nV x, rfl, .inl ⟨kh, Sum.inl (c : Int), .inl ekh2, rfl, by rw [vh c, hq]; rfl⟩, _, rfl, _, rfl, _, rfl, x, aw, dh, dt, W, s'.mark c, rfl, ⟨as, ?_, hI.keep (naw k2)⟩, hx, h12, ⟨kh, ekh2, lh, vh⟩, hT2, hne, hlt', by omega, fun H3 hH3 hT3 k3 => ?_⟩
        · exact naw k2 _ _ hA
        · have k4 : ∀ b o, H b = some o → b ≠ dh → b ≠ dt → H3 b = some o := fun b o e n1 n2 => k3 b o (k2 b o e n1 n2) n1 n2
          refine ⟨_, rfl, ?_⟩
          cases hb : (find (wAt W) n x (s'.mark c)).1 with
          | true =>
            rw [if_pos hb] at hs
            refine yes rfl ?_
            obtain ⟨kh3, ekh3, lh3, vh3⟩ := hH3
            refine ⟨_, rfl, _, rfl, _, rfl, dh, _, rfl, DPut.k (k := Sum.inl (c : Int)) ekh3 lh3.size, ?_⟩
            rw [← hs] at q
            refine q _ ⟨_, upd_same, lh3.put hc12 _, fun d => ?_⟩ ?_ (fun b o e n1 n2 => by rw [upd_ne n1]; exact k4 b o e n1 n2)
            · rw [valV_put]
              show _ = (if d = c then some p else (find (wAt W) n x (s'.mark c)).2.hold d).map nV
              by_cases e : d = c
              · rw [if_pos (inl_inj.mpr e), if_pos e]
                rfl
              · rw [if_neg (fun z => e (inl_inj.mp z)), if_neg e, vh3 d]
            · obtain ⟨kt2, e2, r2⟩ := hT3
              exact ⟨kt2, by rw [upd_ne (Ne.symm hne)]; exact e2, r2⟩
          | false =>
            rw [if_neg (by rw [hb]; simp)] at hs
            refine no rfl ?_
            refine ⟨_, _, rfl, hs, hH3, hT3, find_lt n x _ hx hlt', ?_, k4⟩
            have := left_more (U := List.range 12) (find_more (W := wAt W) n x (s'.mark c))
            omega
  · rintro σ H' ⟨v, s', rfl, hs, hH', hT', hlt', hn', k⟩
    rw [List.length_map, List.drop_length] at hs
    have hs : (false, s') = R := hs
    rw [← hs] at q
    exact q H' hH' hT' k
theorem ok_find_0 {f : Addr} {fd : FuncData} : FnOk P w K mg base CX0 0 f fd ["party", "wishes", "holders", "tried"] (spFind 0) := by
  have no : ∀ vs H Q E, ¬ spFind 0 vs H Q E := fun vs H Q E h => by
    obtain ⟨p, aw, dh, dt, W, s, _, _, _, _, _, _, _, _, h1, _⟩ := h
    omega
  exact ⟨fun vs H Q E h => absurd h (no vs H Q E), fun A outer s H args us vs Q E _ _ _ _ h => absurd h (no vs H Q E)⟩
theorem ok_find {f : Addr} {fd : FuncData} (F : Fun K "find_cabin" "find_cabin" sFind f fd) (b : Binds K fd ["party", "wishes", "holders", "tried"] []) (mF : mg "find_cabin" = some (.ref f)) :
    ∀ n : Nat, FnOk P w K mg base CX0 n f fd ["party", "wishes", "holders", "tried"] (spFind n)
  | 0 => ok_find_0
  | n + 1 => ok_find_step F (ok_find F b mF n) b mF
end
end Cg

end
section
set_option Elab.async false
set_option linter.all false
set_option maxRecDepth 100000
set_option maxHeartbeats 2000000
namespace Cg
open PySem PySem.Spec PyProof.Rows L2
theorem same_new {H : Hp} {p : Addr} (h : H p = none) (o : HO) : Same H (upd H p o) := fun b u q => by rw [upd_ne (ne_of_none q h)]; exact q
theorem small {n : Nat} (h : n ≤ 1000) : n ≤ sizeLine := Nat.le_of_lt (small1000 h)
theorem Same.lst {H H' : Hp} (e : Same H H') : ∀ b xs, H b = some (.lst xs) → H' b = some (.lst xs) := fun b xs h => e b _ h
/-- wishes as they stand here: at most eight lists of at most twelve cabins below twelve -/
structure Fine (W : List (List Nat)) : Prop where
  len : W.length ≤ 8
  row : ∀ w, w ∈ W → w.length ≤ 12 ∧ ∀ c, c ∈ w → c < 12
theorem Fine.low {W : List (List Nat)} (h : Fine W) : ∀ q c, c ∈ wAt W q → c < 12 := fun q c hc => by
  unfold wAt at hc
  rw [List.getD_eq_getElem?_getD] at hc
  cases e : W[q]? with
  | none =>
    rw [e] at hc
    cases hc
  | some w =>
    rw [e] at hc
    exact (h.row w (List.mem_of_getElem? e)).2 c hc
theorem Fine.drop {W : List (List Nat)} (h : Fine W) (c : Nat) : Fine (dropC W c) := ⟨by unfold dropC; rw [List.length_map]; exact h.len, fun w hw => by
  obtain ⟨v, hv, rfl⟩ := List.mem_map.mp hw
  exact ⟨Nat.le_trans (List.length_filter_le _ _) (h.row v hv).1, fun d hd => (h.row v hv).2 d (List.mem_filter.mp hd).1⟩⟩
theorem Fine.left {W : List (List Nat)} (h : Fine W) (o : Option Nat) : Fine (leftL W o) := by
  cases o with
  | none => exact h
  | some c => exact h.drop c
theorem Fine.tail {w : List Nat} {W : List (List Nat)} (h : Fine (w :: W)) : Fine W := ⟨by have := h.len; rw [List.length_cons] at this; omega, fun v hv => h.row v (List.mem_cons_of_mem _ hv)⟩
def vO : Option Nat → V
  | none => .non
  | some c => nV c
def dropO (w : List Nat) : Option Nat → List Nat
  | none => w
  | some c => w.filter fun k => k != c
theorem leftL_map (W : List (List Nat)) (o : Option Nat) : leftL W o = W.map fun w => dropO w o := by
  cases o with
  | none =>
    show W = W.map fun w => w
    simp
  | some c => rfl
/-- the same, the rows new since H0 -/
def RowsN (H0 H : Hp) (a : Addr) (W : List (List Nat)) : Prop := ∃ as : List Addr, H a = some (.lst (as.map V.ref)) ∧ Items H as W ∧ ∀ b, b ∈ as → H0 b = none
theorem RowsN.rows {H0 H : Hp} {a : Addr} {W : List (List Nat)} (h : RowsN H0 H a W) : Rows H a W := by
  obtain ⟨as, h1, h2, _⟩ := h
  exact ⟨as, h1, h2⟩
def spMost : Sp := fun vs H Q _ => ∃ (aw : Addr) (W : List (List Nat)), vs = [.ref aw] ∧ Rows H aw W ∧ Fine W ∧ ∀ H' : Hp, Same H H' → Q (nV (mostL W)) H'
def spOthers : Sp := fun vs H Q _ => ∃ (a : Addr) (w : List Nat) (o : Option Nat), vs = [.ref a, vO o] ∧ LstN H a w ∧ w.length ≤ 12 ∧ ∀ (H' : Hp) (r : Addr), H r = none → Same H H' → LstN H' r (dropO w o) → Q (.ref r) H'
def spWithout : Sp := fun vs H Q _ => ∃ (a : Addr) (W : List (List Nat)) (o : Option Nat), vs = [.ref a, vO o] ∧ Rows H a W ∧ Fine W ∧ ∀ (H' : Hp) (r : Addr), H r = none → Same H H' → RowsN H H' r (leftL W o) → Q (.ref r) H'
def spBest : Sp := fun vs H Q _ => ∃ (a b : Addr) (w : List Nat) (B : List (List Nat)), vs = [.ref a, .ref b] ∧ LstN H a w ∧ Rows H b B ∧ Fine (w :: B) ∧ ∀ H' : Hp, Same H H' → Q (vO (bestL w B)) H'
def spPlanned : Sp := fun vs H Q _ => ∃ (a : Addr) (W : List (List Nat)), vs = [.ref a] ∧ Rows H a W ∧ Fine W ∧ ∀ (H' : Hp) (r : Addr), H r = none → Same H H' → H' r = some (.lst ((plannedF W.length W).map vO)) → Q (.ref r) H'
section
variable {P : Program} {w : World} {K : PySem.W.Frag} {mg : Str → Option Value} {base : Heap}
theorem scMost : FnScope ["wishes", "holders", "housed", "party"] ["wishes"] (defScope sMost) := ⟨rfl, rfl, rfl, by decide +kernel, rfl, by decide +kernel, by decide +kernel⟩
theorem ok_most {f g : Addr} {fd gd : FuncData} (F : Fun K "most_housed" "most_housed" sMost f fd) (FF : Fun K "find_cabin" "find_cabin" sFind g gd) (b : Binds K gd ["party", "wishes", "holders", "tried"] []) (mF : mg "find_cabin" = some (.ref g)) (ml : mg "len" = none) (mr : mg "range" = none) :
    FnOk P w K mg base CX0 14 f fd ["wishes"] spMost := by
  have G := ok_find (P := P) (w := w) (base := base) FF b mF 13
  refine F.ok scMost (fun vs H Q E h => ?_) (fun cdv A outer s H vs Q E hr h => ?_)
  · obtain ⟨aw, W, rfl, _⟩ := h
    rfl
  obtain ⟨aw, W, rfl, hW, fine, q⟩ := h
  have hu := hu_of hr
  refine ⟨_, pss_cons (ps_set (i := 1) scMost.nd rfl (Or.inl rfl) pe_dnewK) (pss_cons (ps_set (i := 2) scMost.nd rfl (Or.inl rfl) pe_int)
    (pss_cons (ps_for PassesOwn.never rfl (pi_range1 rfl mr (pa_cons (pe_callB call_len_seq rfl ml PySem.boot_len (pa_cons (pv 0) pa_nil)) pa_nil)) (pg_name (i := 3) scMost.nd rfl (Or.inl rfl))
      (pss_one (ps_if (pt_val (pe_call G hr rfl mF FF.kp b .nil pass0 (pa_cons (pv 3) (pa_cons (pv 0) (pa_cons (pv 1) (pa_cons pe_dnewK pa_nil)))))) (pss_one (ps_aug (i := 2) scMost.nd rfl (Or.inl rfl) pe_int ip_add)) pss_nil)))
    (pss_one (ps_ret (pv 2))))), ?_⟩
  intro d hd
  have s1 : Same H (upd H d (.dK [])) := same_new hd _
  obtain ⟨as, hA, hI⟩ := hW
  have hlen : (as.map V.ref).length = W.length := by rw [List.length_map, hI.1]
  have htn : (((as.map V.ref).length : Nat) : Int).toNat = W.length := by rw [Int.toNat_natCast, hlen]
  have hl8 := fine.len
  refine ⟨_, rfl, aw, _, rfl, .inl (SqL.of (s1 _ _ hA)), _, rfl, by omega, by omega, ?_⟩
  rw [htn]
  refine for_range (lo := 0) (n := W.length) (fun i σ H' => ∃ v : Option V, σ = [some (.ref aw), some (.ref d), some (nV (mostTo (wAt W) 13 i).2), v] ∧ DH H' d (mostTo (wAt W) 13 i).1 ∧
      (∀ c q, (mostTo (wAt W) 13 i).1 c = some q → q < W.length) ∧ Same H H') ⟨none, rfl, ⟨[], upd_same, Low.nil, fun c => rfl⟩, fun c q h => (by cases h), s1⟩ ?_ ?_
  · rintro i σ H' hi ⟨v, rfl, hH, hlt, s2⟩
    have e0 : V.int (0 + (i : Nat)) = nV i := by
      show V.int (0 + (i : Int)) = V.int (i : Int)
      rw [Int.zero_add]
    rw [e0]
    refine ⟨_, rfl, _, rfl, _, rfl, fun t ht => ?_⟩
    have s3 : Same H' (upd H' t (.dK [])) := same_new ht _
    have hdt : d ≠ t := by
      obtain ⟨kvs, e, _⟩ := hH
      exact ne_of_none e ht
    refine ⟨i, aw, d, t, W, ⟨(mostTo (wAt W) 13 i).1, fun _ => false⟩, rfl, ⟨as, s3 _ _ (s2 _ _ hA), hI.keep (Same.lst (s2.trans s3))⟩, hi, fine.low, ?_, ⟨[], upd_same, Low.nil, fun c => rfl⟩, hdt, hlt, ?_, fun H3 hH3 hT3 k3 => ?_⟩
    · obtain ⟨kvs, e, r⟩ := hH
      exact ⟨kvs, by rw [upd_ne hdt]; exact e, r⟩
    · exact Nat.lt_of_le_of_lt List.countP_le_length (by decide)
    · have s4 : Same H H3 := fun b o e => k3 b o (s3 _ _ (s2 _ _ e)) (fun z => (by rw [z, hd] at e; cases e)) (fun z => (by rw [z, s2.free ht] at e; cases e))
      have e1 : (mostTo (wAt W) 13 (i + 1)).1 = (find (wAt W) 13 i ⟨(mostTo (wAt W) 13 i).1, fun _ => false⟩).2.hold := rfl
      have e2 : (mostTo (wAt W) 13 (i + 1)).2 = if (find (wAt W) 13 i ⟨(mostTo (wAt W) 13 i).1, fun _ => false⟩).1 = true then (mostTo (wAt W) 13 i).2 + 1 else (mostTo (wAt W) 13 i).2 := rfl
      have hl2 := find_lt (W := wAt W) 13 i ⟨(mostTo (wAt W) 13 i).1, fun _ => false⟩ hi hlt
      refine ⟨_, rfl, ?_⟩
      cases hb : (find (wAt W) 13 i ⟨(mostTo (wAt W) 13 i).1, fun _ => false⟩).1 with
      | true =>
        rw [if_pos hb] at e2
        refine yes rfl ⟨_, rfl, _, _, rfl, rfl, ?_⟩
        refine ⟨some (nV i), ?_, by rw [e1]; exact hH3, by rw [e1]; exact hl2, s4⟩
        rw [e2]
        rfl
      | false =>
        rw [if_neg (by rw [hb]; simp)] at e2
        refine no rfl ?_
        refine ⟨some (nV i), ?_, by rw [e1]; exact hH3, by rw [e1]; exact hl2, s4⟩
        rw [e2]
        rfl
  · rintro σ H' ⟨v, rfl, hH, hlt, s2⟩
    exact ⟨_, rfl, q H' s2⟩
theorem scOthers : FnScope ["wish", "cabin", "k"] ["wish", "cabin"] (defScope sOthers) := ⟨rfl, rfl, rfl, by decide +kernel, rfl, by decide +kernel, by decide +kernel⟩
theorem vO_ne (c : Nat) (o : Option Nat) : scal (nV c) (vO o) = true ∧ decide (nV c = vO o) = decide (some c = o) := by
  cases o with
  | none => exact ⟨rfl, rfl⟩
  | some d =>
    refine ⟨rfl, ?_⟩
    show decide (nV c = nV d) = _
    by_cases e : c = d
    · rw [e, decide_eq_true rfl, decide_eq_true rfl]
    · rw [decide_eq_false (fun z => e (nV_inj z)), decide_eq_false (fun z => e (Option.some.inj z))]
theorem take_snoc {α : Type} {l : List α} {i : Nat} {x : α} (h : l[i]? = some x) : l.take (i + 1) = l.take i ++ [x] := by
  rw [List.take_add_one, h]
  rfl
theorem dropO_snoc {w : List Nat} {i c : Nat} (o : Option Nat) (h : w[i]? = some c) : dropO (w.take (i + 1)) o = dropO (w.take i) o ++ if (!decide (some c = o)) = true then [c] else [] := by
  rw [take_snoc h]
  cases o with
  | none => rfl
  | some d =>
    show (w.take i ++ [c]).filter _ = _
    rw [List.filter_append]
    show _ = (w.take i).filter _ ++ _
    congr 1
    by_cases e : c = d
    · subst e
      simp
    · simp [e]
theorem dropO_len (w : List Nat) (o : Option Nat) : (dropO w o).length ≤ w.length := by
  cases o with
  | none => exact Nat.le_refl _
  | some d => exact List.length_filter_le _ _
theorem ok_others {f : Addr} {fd : FuncData} (F : Fun K "others" "others" sOthers f fd) : FnOk P w K mg base CX0 1 f fd ["wish", "cabin"] spOthers := by
  refine F.ok scOthers (fun vs H Q E h => ?_) (fun cdv A outer s H vs Q E hr h => ?_)
  · obtain ⟨a, w, o, rfl, _⟩ := h
    rfl
  obtain ⟨a, wl, o, rfl, hL, h12, q⟩ := h
  refine ⟨_, pss_one (ps_ret (pe_lc (own := [("k", 2)]) rfl scOthers.nd (pi_list (pv 0)) (blkOk_by rfl) (fun _ _ _ _ _ => pg_name (i := 2) scOthers.nd rfl (Or.inl rfl))
    (fun _ _ _ _ _ => pts_one (pt_cmpR op_ne (pv 2) (pv 1) (nomark _))) (fun _ _ _ _ _ => pv 2))), ?_⟩
  refine ⟨_, rfl, a, rfl, ⟨_, SqL.of hL⟩, fun D hD => ?_⟩
  have s1 : Same H (upd H D (.lst [])) := same_new hD _
  refine lc_list (K := K) (a := a) (xs := wl.map nV) (fun i H' => Same H H' ∧ LstN H' D (dropO (wl.take i) o)) ⟨s1, by
      show upd H D (.lst []) D = _
      rw [upd_same]
      cases o <;> rfl⟩ (fun i H' _ h => SqL.of (h.1 _ _ hL)) ?_ ?_
  · rintro i y H' hi ⟨s2, hD2⟩
    obtain ⟨c, hc, rfl⟩ := map_nV hi
    refine ⟨rfl, _, rfl, _, rfl, (vO_ne c o).1, _, rfl, ?_⟩
    rw [(vO_ne c o).2]
    have es := dropO_snoc o hc
    cases hb : (!decide (some c = o)) with
    | true =>
      rw [hb, if_pos rfl] at es
      refine yes rfl ⟨_, rfl, _, hD2, ?_, fun b u e => by rw [upd_ne (ne_of_none e hD)]; exact s2 b u e, ?_⟩
      · rw [List.length_map]
        exact small1000 (Nat.le_trans (dropO_len _ _) (by rw [List.length_take]; omega))
      · show upd H' D _ D = _
        rw [upd_same, es, List.map_append]
        rfl
    | false =>
      rw [hb, if_neg (by simp), List.append_nil] at es
      exact no rfl ⟨s2, by rw [es]; exact hD2⟩
  · rintro H' ⟨s2, hD2⟩
    rw [List.length_map, List.take_length] at hD2
    exact q H' D hD s2 hD2
theorem scWithout : FnScope ["wishes", "cabin", "wish"] ["wishes", "cabin"] (defScope sWithout) := ⟨rfl, rfl, rfl, by decide +kernel, rfl, by decide +kernel, by decide +kernel⟩
theorem map_ref {as : List Addr} {i : Nat} {y : V} (h : (as.map V.ref)[i]? = some y) : ∃ b, as[i]? = some b ∧ y = .ref b := by
  rw [List.getElem?_map] at h
  cases e : as[i]? with
  | none =>
    rw [e] at h
    cases h
  | some c =>
    rw [e] at h
    exact ⟨c, rfl, (Option.some.inj h).symm⟩
theorem Items.snoc {H : Hp} {as : List Addr} {W : List (List Nat)} {b : Addr} {w : List Nat} (h : Items H as W) (hb : LstN H b w) : Items H (as ++ [b]) (W ++ [w]) := by
  refine ⟨by rw [List.length_append, List.length_append, h.1]; rfl, fun i c v e1 e2 => ?_⟩
  by_cases hi : i < as.length
  · rw [List.getElem?_append_left hi] at e1
    rw [List.getElem?_append_left (by rw [← h.1]; exact hi)] at e2
    exact h.2 i c v e1 e2
  · rw [List.getElem?_append_right (by omega)] at e1
    rw [List.getElem?_append_right (by rw [← h.1]; omega), ← h.1] at e2
    have : i - as.length = 0 := by
      by_cases z : i - as.length = 0
      · exact z
      · rw [List.getElem?_eq_none (by rw [List.length_singleton]; omega)] at e1
        cases e1
    rw [this] at e1 e2
    have e1 : b = c := Option.some.inj e1
    have e2 : w = v := Option.some.inj e2
    rw [← e1, ← e2]
    exact hb
theorem ok_without {f g : Addr} {fd gd : FuncData} (F : Fun K "without_cabin" "without_cabin" sWithout f fd) (FO : Fun K "others" "others" sOthers g gd) (bO : Binds K gd ["wish", "cabin"] []) (mO : mg "others" = some (.ref g)) :
    FnOk P w K mg base CX0 2 f fd ["wishes", "cabin"] spWithout := by
  have G := ok_others (P := P) (w := w) (mg := mg) (base := base) FO
  refine F.ok scWithout (fun vs H Q E h => ?_) (fun cdv A outer s H vs Q E hr h => ?_)
  · obtain ⟨a, W, o, rfl, _⟩ := h
    rfl
  obtain ⟨a, W, o, rfl, ⟨as, hA, hI⟩, fine, q⟩ := h
  refine ⟨_, pss_one (ps_ret (pe_lc (own := [("wish", 2)]) rfl scWithout.nd (pi_list (pv 0)) (blkOk_by rfl) (fun _ _ _ _ _ => pg_name (i := 2) scWithout.nd rfl (Or.inl rfl))
    (fun _ _ _ _ _ => pts_nil) (fun _ _ _ _ _ => pe_call G hr rfl mO FO.kp bO .nil pass0 (pa_cons (pv 2) (pa_cons (pv 1) pa_nil))))), ?_⟩
  refine ⟨_, rfl, a, rfl, ⟨_, SqL.of hA⟩, fun D hD => ?_⟩
  have s1 : Same H (upd H D (.lst [])) := same_new hD _
  refine lc_list (K := K) (a := a) (xs := as.map V.ref) (fun i H' => Same H H' ∧ ∃ bs : List Addr, H' D = some (.lst (bs.map V.ref)) ∧ bs.length = i ∧ (∀ b, b ∈ bs → b ≠ D ∧ H b = none) ∧ Items H' bs ((W.take i).map fun w => dropO w o))
    ⟨s1, [], upd_same, rfl, fun b hb => (by cases hb), rfl, fun i b w e => (by cases e)⟩ (fun i H' _ h => SqL.of (h.1 _ _ hA)) ?_ ?_
  · rintro i y H' hi ⟨s2, bs, hD2, hbl, hnd, hB⟩
    obtain ⟨b, hb, rfl⟩ := map_ref hi
    have hiW : i < W.length := by
      rw [← hI.1]
      exact (List.getElem?_eq_some_iff.mp hb).1
    have eW := List.getElem?_eq_getElem hiW
    have hL := hI.2 i b _ hb eW
    refine ⟨rfl, ?_⟩
    unfold tYes
    refine yes rfl ?_
    refine ⟨_, rfl, _, rfl, b, W[i], o, rfl, s2 _ _ hL, (fine.row _ (List.getElem_mem hiW)).1, fun H3 r nr s3 hr3 => ?_⟩
    have nrD : r ≠ D := Ne.symm (ne_of_none hD2 nr)
    refine ⟨_, s3 _ _ hD2, ?_, fun c u e => by rw [upd_ne (ne_of_none e hD)]; exact s3 _ _ (s2 c u e), bs ++ [r], ?_, by rw [List.length_append, hbl]; rfl, ?_, ?_⟩
    · rw [List.length_map, hbl]
      exact small1000 (by have := fine.len; omega)
    · rw [upd_same, List.map_append]
      rfl
    · intro c hc
      rcases List.mem_append.mp hc with z | z
      · exact hnd c z
      · rw [List.mem_singleton.mp z]
        exact ⟨nrD, s2.free nr⟩
    · rw [take_snoc eW, List.map_append]
      have hB3 : Items (upd H3 D (.lst (bs.map V.ref ++ [V.ref r]))) bs ((W.take i).map fun w => dropO w o) := ⟨hB.1, fun j c v e1 e2 => by
        show upd H3 D _ c = _
        rw [upd_ne (hnd c (List.mem_of_getElem? e1)).1]
        exact s3 _ _ (hB.2 j c v e1 e2)⟩
      refine hB3.snoc ?_
      show upd H3 D _ r = _
      rw [upd_ne nrD]
      exact hr3
  · rintro H' ⟨s2, bs, hD2, hbl, hnd, hB⟩
    rw [List.length_map, hI.1, List.take_length] at hB
    exact q H' D hD s2 ⟨bs, hD2, by rw [leftL_map]; exact hB, fun b hb => (hnd b hb).2⟩
theorem scBest : FnScope ["wish", "behind", "most", "cabin"] ["wish", "behind"] (defScope sBest) := ⟨rfl, rfl, rfl, by decide +kernel, rfl, by decide +kernel, by decide +kernel⟩
theorem find_at {α : Type} {p : α → Bool} : ∀ {l : List α} {i : Nat} {x : α}, l[i]? = some x → p x = true → (∀ j y, j < i → l[j]? = some y → p y = false) → l.find? p = some x
  | [], i, x, h, _, _ => by simp at h
  | a :: l, 0, x, h, hp, _ => by
    have e : a = x := Option.some.inj h
    subst e
    rw [List.find?_cons, hp]
  | a :: l, i + 1, x, h, hp, hb => by
    have h0 := hb 0 a (Nat.succ_pos _) rfl
    rw [List.find?_cons, h0]
    exact find_at (l := l) (i := i) h hp fun j y hj hy => hb (j + 1) y (Nat.succ_lt_succ hj) hy
theorem find_none {α : Type} {p : α → Bool} {l : List α} (h : ∀ (j : Nat) (y : α), l[j]? = some y → p y = false) : l.find? p = none := by
  rw [List.find?_eq_none]
  intro x hx
  obtain ⟨i, hi, e⟩ := List.getElem_of_mem hx
  rw [h i x (by rw [List.getElem?_eq_getElem hi, e])]
  simp
theorem Items.cons {H : Hp} {as : List Addr} {W : List (List Nat)} {b : Addr} {w : List Nat} (h : Items H as W) (hb : LstN H b w) : Items H (b :: as) (w :: W) := by
  refine ⟨by rw [List.length_cons, List.length_cons, h.1], fun i c v e1 e2 => ?_⟩
  cases i with
  | zero =>
    have e1 : b = c := Option.some.inj e1
    have e2 : w = v := Option.some.inj e2
    rw [← e1, ← e2]
    exact hb
  | succ i => exact h.2 i c v e1 e2
structure House (P : Program) (w : World) (K : PySem.W.Frag) (mg : Str → Option Value) (base : Heap) (f g : Addr) (fd gd : FuncData) : Prop where
  most : FnOk P w K mg base CX0 14 f fd ["wishes"] spMost
  kM : PySem.W.keepIn K (.ref f) = true
  bM : Binds K fd ["wishes"] []
  mM : mg "most_housed" = some (.ref f)
  wo : FnOk P w K mg base CX0 2 g gd ["wishes", "cabin"] spWithout
  kW : PySem.W.keepIn K (.ref g) = true
  bW : Binds K gd ["wishes", "cabin"] []
  mW : mg "without_cabin" = some (.ref g)
theorem ok_best {f fM fW : Addr} {fd dM dW : FuncData} (F : Fun K "best_cabin" "best_cabin" sBest f fd) (T : House P w K mg base fM fW dM dW) : FnOk P w K mg base CX0 15 f fd ["wish", "behind"] spBest := by
  refine F.ok scBest (fun vs H Q E h => ?_) (fun cdv A outer s H vs Q E hr h => ?_)
  · obtain ⟨a, b, w, B, rfl, _⟩ := h
    rfl
  obtain ⟨a, b, wl, B, rfl, hL, ⟨as, hA, hI⟩, fine, q⟩ := h
  refine ⟨_, pss_cons (ps_set (i := 2) scBest.nd rfl (Or.inl rfl) (pe_call T.most hr rfl T.mM T.kM T.bM .nil pass0 (pa_cons (pe_op op_cat (pe_lst (pa_cons (pv 0) pa_nil)) (pv 1)) pa_nil)))
    (pss_cons (ps_for PassesOwn.never rfl (pi_list (pv 0)) (pg_name (i := 3) scBest.nd rfl (Or.inl rfl))
      (pss_one (ps_if (pt_cmpR op_eq (pe_op op_add pe_int (pe_call T.most hr rfl T.mM T.kM T.bM .nil pass0 (pa_cons (pe_call T.wo (hr.mono (by decide)) rfl T.mW T.kW T.bW .nil pass0 (pa_cons (pv 1) (pa_cons (pv 3) pa_nil))) pa_nil))) (pv 2) (nomark _))
        (pss_one (ps_ret (pv 3))) pss_nil)))
    (pss_one (ps_ret pe_non))), ?_⟩
  refine ⟨_, rfl, (by show 1 ≤ sizeLine; decide), fun p hp => ?_⟩
  have s1 : Same H (upd H p (.lst [.ref a])) := same_new hp _
  refine ⟨_, rfl, p, b, _, _, rfl, rfl, upd_same, s1 _ _ hA, ?_, fun p2 hp2 => ?_⟩
  · rw [List.length_map, hI.1]
    exact small (by have := fine.len; rw [List.length_cons] at this; show 1 + _ ≤ _; omega)
  have s2 : Same (upd H p (.lst [.ref a])) (upd (upd H p (.lst [.ref a])) p2 (.lst ([.ref a] ++ as.map V.ref))) := same_new hp2 _
  have s12 := s1.trans s2
  refine ⟨p2, wl :: B, rfl, ⟨a :: as, upd_same, (hI.keep (Same.lst s12)).cons (s12 _ _ hL)⟩, fine, fun H3 s3 => ?_⟩
  have s13 := s12.trans s3
  refine ⟨_, rfl, a, rfl, ⟨_, SqL.of (s13 _ _ hL)⟩, for_list (K := K) (a := a) (xs := wl.map nV)
    (fun i σ H' => ∃ v : Option V, σ = [some (.ref a), some (.ref b), some (nV (mostL (wl :: B))), v] ∧ Same H H' ∧ ∀ j c, j < i → wl[j]? = some c → (1 + mostL (dropC B c) == mostL (wl :: B)) = false)
    ⟨none, rfl, s13, fun j c hj => absurd hj (Nat.not_lt_zero _)⟩ (fun i σ H' _ ⟨_, _, s4, _⟩ => SqL.of (s4 _ _ hL)) ?_ ?_⟩
  · rintro i y σ H' hi ⟨v, rfl, s4, hno⟩
    obtain ⟨c, hc, rfl⟩ := map_nV hi
    refine ⟨_, rfl, _, rfl, b, B, some c, rfl, ⟨as, s4 _ _ hA, hI.keep (Same.lst s4)⟩, fine.tail, fun H5 r nr s5 hr5 => ?_⟩
    refine ⟨r, leftL B (some c), rfl, hr5.rows, fine.tail.left _, fun H6 s6 => ?_⟩
    have s46 := s4.trans (s5.trans s6)
    refine ⟨_, _, rfl, rfl, _, rfl, rfl, _, rfl, ?_⟩
    have e : decide (V.int (1 + ((mostL (leftL B (some c)) : Nat) : Int)) = nV (mostL (wl :: B))) = (1 + mostL (dropC B c) == mostL (wl :: B)) := by
      show decide (V.int (1 + ((mostL (dropC B c) : Nat) : Int)) = V.int ((mostL (wl :: B) : Nat) : Int)) = _
      rw [dec_int, Bool.eq_iff_iff, beq_iff_eq, beq_iff_eq]
      omega
    refine ite2 (fun h => ?_) (fun h => ?_)
    · have h := e.symm.trans h
      refine ⟨_, rfl, ?_⟩
      have hb : bestL wl B = some c := find_at hc h hno
      have := q H6 s46
      rw [hb] at this
      exact this
    · have h : (1 + mostL (dropC B c) == mostL (wl :: B)) = false := e.symm.trans (Bool.eq_false_iff.mpr h)
      refine ⟨_, rfl, s46, fun j d hj hd => ?_⟩
      by_cases z : j = i
      · subst z
        rw [hc] at hd
        rw [← Option.some.inj hd]
        exact h
      · exact hno j d (by omega) hd
  · rintro σ H' ⟨v, rfl, s4, hno⟩
    have hb : bestL wl B = none := find_none fun j y hy => hno j y (by rw [List.length_map]; exact (List.getElem?_eq_some_iff.mp hy).1) hy
    have := q H' s4
    rw [hb] at this
    exact this
theorem scPlanned : FnScope ["wishes", "planned", "left", "behind", "cabin"] ["wishes"] (defScope sPlanned) := ⟨rfl, rfl, rfl, by decide +kernel, rfl, by decide +kernel, by decide +kernel⟩
theorem cut_tail (x : V) (xs : List V) : cutV (x :: xs) (some 1) none = xs := by
  have e1 : HT.sIx (x :: xs).length 0 (some 1) = 1 := by
    have := HT.sIx_nat (x :: xs).length 0 1
    rw [show ((1 : Nat) : Int) = 1 from rfl] at this
    rw [this, List.length_cons]
    omega
  unfold cutV
  rw [e1, HT.sIx_none, List.length_cons]
  show xs.take (xs.length + 1 - 1) = xs
  rw [Nat.add_sub_cancel, List.take_length]
theorem ok_planned {f fM fW fB : Addr} {fd dM dW dB : FuncData} (F : Fun K "planned_cabins" "planned_cabins" sPlanned f fd) (T : House P w K mg base fM fW dM dW) (FB : Fun K "best_cabin" "best_cabin" sBest fB dB) (bB : Binds K dB ["wish", "behind"] []) (mB : mg "best_cabin" = some (.ref fB)) (ml : mg "len" = none) :
    FnOk P w K mg base CX0 16 f fd ["wishes"] spPlanned := by
  have G := ok_best FB T
  refine F.ok scPlanned (fun vs H Q E h => ?_) (fun cdv A outer s H vs Q E hr h => ?_)
  · obtain ⟨a, W, rfl, _⟩ := h
    rfl
  obtain ⟨a, W, rfl, hW, fine, q⟩ := h
  refine ⟨_, pss_cons (ps_set (i := 1) scPlanned.nd rfl (Or.inl rfl) (pe_lst pa_nil)) (pss_cons (ps_set (i := 2) scPlanned.nd rfl (Or.inl rfl) (pv 0))
    (pss_cons (ps_while PassesOwn.never (pt_cmpR op_gt (pe_callB call_len_seq rfl ml PySem.boot_len (pa_cons (pv 2) pa_nil)) pe_int (nomark _))
      (pss_cons (ps_set (i := 3) scPlanned.nd rfl (Or.inl rfl) (pe_slice sl_list (pv 2) (po_some pe_int) po_none))
      (pss_cons (ps_set (i := 4) scPlanned.nd rfl (Or.inl rfl) (pe_call G hr rfl mB FB.kp bB .nil pass0 (pa_cons (pe_ix ix_list (pv 2) pe_int (fun _ _ => rfl)) (pa_cons (pv 3) pa_nil))))
      (pss_cons (ps_expr (pe_bm PySem.F.plainAttrs_list PySem.F.slot_list_append PySem.F.type_list_append mt_append (pv 1) (pa_cons (pv 4) pa_nil)))
      (pss_one (ps_set (i := 2) scPlanned.nd rfl (Or.inl rfl) (pe_call T.wo (hr.mono (by decide)) rfl T.mW T.kW T.bW .nil pass0 (pa_cons (pv 3) (pa_cons (pv 4) pa_nil)))))))))
    (pss_one (ps_ret (pv 1))))), ?_⟩
  refine ⟨Nat.zero_le _, fun D hD => ?_⟩
  have s1 : Same H (upd H D (.lst [])) := same_new hD _
  have start : ∃ as : List Addr, (upd H D (.lst [])) a = some (.lst (as.map V.ref)) ∧ Items (upd H D (.lst [])) as W ∧ a ≠ D ∧ ∀ b, b ∈ as → b ≠ D := by
    obtain ⟨as, hA, hI⟩ := hW
    refine ⟨as, s1 _ _ hA, hI.keep (Same.lst s1), ne_of_none hA hD, fun b hb => ?_⟩
    obtain ⟨i, hi, e⟩ := List.getElem_of_mem hb
    have hiW : i < W.length := by rw [← hI.1]; exact hi
    exact ne_of_none (hI.2 i b _ (by rw [List.getElem?_eq_getElem hi, e]) (List.getElem?_eq_getElem hiW)) hD
  refine ⟨_, rfl, fun m σ H' => ∃ (L : List (List Nat)) (l : Addr) (v3 v4 : Option V) (acc : List (Option Nat)), m = L.length ∧ σ = [some (.ref a), some (.ref D), some (.ref l), v3, v4] ∧
      (∃ as : List Addr, H' l = some (.lst (as.map V.ref)) ∧ Items H' as L ∧ l ≠ D ∧ ∀ b, b ∈ as → b ≠ D) ∧ Fine L ∧ H' D = some (.lst (acc.map vO)) ∧ acc.length + L.length = W.length ∧ Same H H' ∧
      acc ++ plannedF L.length L = plannedF W.length W, ⟨_, W, a, none, none, [], rfl, rfl, start, fine, upd_same, by simp, s1, rfl⟩, ?_⟩
  rintro m σ H' ⟨L, l, v3, v4, acc, rfl, rfl, ⟨as, hA, hI, hlD, hnD⟩, fL, hDD, hlen, s2, hacc⟩
  have hl : (as.map V.ref).length = L.length := by rw [List.length_map, hI.1]
  refine ⟨_, rfl, l, _, rfl, .inl (SqL.of hA), _, _, rfl, rfl, _, rfl, ?_⟩
  rw [hl]
  cases L with
  | nil =>
    refine no rfl ?_
    have hacc : acc ++ [] = plannedF W.length W := hacc
    rw [List.append_nil] at hacc
    exact ⟨_, rfl, q H' D hD s2 (by rw [← hacc]; exact hDD)⟩
  | cons wl B =>
    cases as with
    | nil => exact absurd hI.1 (by simp)
    | cons x as =>
      rw [decide_eq_true (show (0 : Int) < (((wl :: B).length : Nat) : Int) by rw [List.length_cons]; omega)]
      refine yes rfl ⟨fun σ' H' => ∃ (L : List (List Nat)) (l : Addr) (v3 v4 : Option V) (acc : List (Option Nat)), B.length = L.length ∧ σ' = [some (.ref a), some (.ref D), some (.ref l), v3, v4] ∧
        (∃ as : List Addr, H' l = some (.lst (as.map V.ref)) ∧ Items H' as L ∧ l ≠ D ∧ ∀ b, b ∈ as → b ≠ D) ∧ Fine L ∧ H' D = some (.lst (acc.map vO)) ∧ acc.length + L.length = W.length ∧ Same H H' ∧
        acc ++ plannedF L.length L = plannedF W.length W, fun σ' H' h => ⟨B.length, by rw [List.length_cons]; omega, h⟩, ?_⟩
      have hx := hI.2 0 x wl rfl rfl
      have hI2 : Items H' as B := ⟨by have := hI.1; simpa using this, fun i b w e1 e2 => hI.2 (i + 1) b w e1 e2⟩
      refine ⟨_, rfl, 1, rfl, l, _, rfl, SqL.of hA, fun p hp => ?_⟩
      rw [List.map_cons, cut_tail]
      have s3 : Same H' (upd H' p (.lst (as.map V.ref))) := same_new hp _
      refine ⟨_, rfl, l, _, _, _, rfl, rfl, SqL.of (s3 _ _ hA), atI_nat (j := 0) rfl, _, rfl, x, p, wl, B, rfl, s3 _ _ hx, ⟨as, upd_same, hI2.keep (Same.lst s3)⟩, fL, fun H4 s4 => ?_⟩
      have s34 := s3.trans s4
      refine ⟨_, rfl, .inl ⟨rfl, _, SqL.of (s34 _ _ hDD)⟩, _, rfl, D, _, _, rfl, rfl, s34 _ _ hDD, ?_, ?_⟩
      · rw [List.length_map]
        exact small1000 (by have := fine.len; omega)
      have npD : p ≠ D := Ne.symm (ne_of_none hDD hp)
      have kD : ∀ b o, H' b = some o → b ≠ D → (upd H4 D (.lst (acc.map vO ++ [vO (bestL wl B)]))) b = some o := fun b o e n => by
        rw [upd_ne n]
        exact s34 _ _ e
      have hnD2 : ∀ b, b ∈ as → b ≠ D := fun b hb => hnD b (List.mem_cons_of_mem _ hb)
      refine ⟨_, rfl, _, rfl, p, B, bestL wl B, rfl, ⟨as, ?_, hI2.1, fun i b w e1 e2 => kD b _ (hI2.2 i b w e1 e2) (hnD2 b (List.mem_of_getElem? e1))⟩, fL.tail, fun H5 r nr s5 hr5 => ?_⟩
      · rw [upd_ne npD]
        exact s4 _ _ upd_same
      have nD : ∀ b, (upd H4 D (.lst (acc.map vO ++ [vO (bestL wl B)]))) b = none → b ≠ D := fun b hb z => by
        rw [z, upd_same] at hb
        cases hb
      obtain ⟨bs, hb1, hb2, hb3⟩ := hr5
      refine ⟨leftL B (bestL wl B), r, _, _, acc ++ [bestL wl B], (leftL_len _ _).symm, rfl, ⟨bs, hb1, hb2, nD r nr, fun b hb => nD b (hb3 b hb)⟩, fL.tail.left _, ?_, ?_, fun b o e => ?_, ?_⟩
      · rw [s5 _ _ upd_same, List.map_append]
        rfl
      · rw [leftL_len, List.length_append, List.length_singleton]
        rw [List.length_cons] at hlen
        omega
      · exact s5 _ _ (kD b o (s2 b o e) (ne_of_none e hD))
      · rw [leftL_len, List.append_assoc]
        exact hacc
end
end Cg

end
section
set_option Elab.async false
set_option linter.all false
set_option maxRecDepth 100000
set_option maxHeartbeats 4000000
namespace Cg
open PySem PySem.Spec PyProof.Rows L2
/-! ## sorted(xs, key=f), the keys tuples of whole numbers -/
def sh0 : Nat → Bool := fun _ => false
def keyL (g : List Int) : List (Int ⊕ List Nat) := g.map Sum.inl
def lexK (a b : List Int) : Bool := PyProof.Rows.lexLt PyProof.Rows.itemOrd (keyL a) (keyL b)
theorem items_ints : ∀ {g : List Int} {its : List Value} (i : Nat), Vals (g.map V.int) its → PyProof.Rows.tupItems sh0 i its = some (keyL g)
  | [], _, i, r => by
    cases r
    rfl
  | x :: g, _, i, r => by
    cases r with
    | cons r1 r2 =>
      obtain ⟨t, rfl⟩ := r1
      show (if sh0 i = true then none else (PyProof.Rows.tupItems sh0 (i + 1) _).map (Sum.inl x :: ·)) = _
      rw [if_neg (by simp [sh0]), items_ints (i + 1) r2]
      rfl
def KeyMade (H1 : Hp) (g : List Int) : VK := fun v H2 => ∃ t, v = .ref t ∧ H1 t = none ∧ H2 = upd H1 t (.tup (g.map V.int))
/-- what a finished sort says of the pairs -/
theorem sort_out {h : Heap} {kA its : List Value} {ks : List Nat} {g : Nat → List Int} {arr : Array Keyed} (rv : Vals (ks.map nV) its) (hl : kA.length = its.length)
    (hk : ∀ (i : Nat) (v : Value) (k : Nat), kA[i]? = some v → ks[i]? = some k → PyProof.Rows.G.tupKeyC h sh0 v = some (keyL (g k)))
    (hp : arr.Perm (kA.toArray.zip its.toArray)) (hs : PyProof.Rows.SortedToK (PyProof.Rows.G.tupKindC h sh0) arr arr.size) :
    ∃ os : List Nat, os.Perm ks ∧ Vals (os.map nV) (arr.map (·.2)).toList ∧ os.Pairwise fun a b => lexK (g b) (g a) = false := by
  have hlk : ks.length = its.length := by
    have := rv.length
    rw [List.length_map] at this
    exact this
  let F : Keyed → Nat := fun p => match p.2 with
    | .int n _ => n.toNat
    | _ => 0
  have hz : arr.toList.Perm (kA.zip its) := by
    have e := Array.perm_iff_toList_perm.mp hp
    simpa using e
  have at_ : ∀ p, p ∈ kA.zip its → ∃ i k, kA[i]? = some p.1 ∧ its[i]? = some p.2 ∧ ks[i]? = some k ∧ RelV (nV k) p.2 := fun p hp => by
    obtain ⟨i, hi, e⟩ := List.getElem_of_mem hp
    have hi' : i < kA.length ∧ i < its.length := by
      rw [List.length_zip] at hi
      omega
    have e1 : (kA.zip its)[i]? = some p := by rw [List.getElem?_eq_getElem hi, e]
    rw [List.getElem?_zip_eq_some] at e1
    have hk' : i < ks.length := by omega
    obtain ⟨u, hu, r⟩ := rv.get (i := i) (x := nV ks[i]) (by rw [List.getElem?_map, List.getElem?_eq_getElem hk']; rfl)
    have e2 := e1.2
    rw [hu] at e2
    have e2 := Option.some.inj e2
    subst e2
    exact ⟨i, ks[i], e1.1, hu, List.getElem?_eq_getElem hk', r⟩
  have num : ∀ p k, RelV (nV k) (p : Keyed).2 → F p = k := fun p k r => by
    obtain ⟨t, e⟩ := r
    show (match p.2 with
      | .int n _ => n.toNat
      | _ => 0) = k
    rw [e]
    exact Int.toNat_natCast k
  have rel : ∀ p, p ∈ kA.zip its → RelV (nV (F p)) p.2 ∧ PyProof.Rows.G.tupKeyC h sh0 p.1 = some (keyL (g (F p))) := fun p hp => by
    obtain ⟨i, k, e1, e2, e3, r⟩ := at_ p hp
    rw [num p k r]
    exact ⟨r, hk i p.1 k e1 e3⟩
  refine ⟨arr.toList.map F, ?_, ?_, ?_⟩
  · refine (hz.map F).trans ?_
    have e : (kA.zip its).map F = ks := by
      refine List.ext_getElem? fun i => ?_
      rw [List.getElem?_map]
      cases e1 : (kA.zip its)[i]? with
      | none =>
        rw [List.getElem?_eq_none_iff, List.length_zip] at e1
        rw [List.getElem?_eq_none (by omega)]
        rfl
      | some p =>
        have e2 := e1
        rw [List.getElem?_zip_eq_some] at e1
        have hi : i < its.length := (List.getElem?_eq_some_iff.mp e1.2).1
        have hk' : i < ks.length := by omega
        obtain ⟨u, hu, r⟩ := rv.get (i := i) (x := nV ks[i]) (by rw [List.getElem?_map, List.getElem?_eq_getElem hk']; rfl)
        have e3 := e1.2
        rw [hu] at e3
        have e3 := Option.some.inj e3
        rw [List.getElem?_eq_getElem hk']
        show some (F p) = _
        rw [num p ks[i] (by rw [← e3]; exact r)]
    rw [e]
  · have : ∀ l : List Keyed, (∀ p, p ∈ l → RelV (nV (F p)) p.2) → Vals ((l.map F).map nV) (l.map (·.2)) := by
      intro l
      induction l with
      | nil => exact fun _ => .nil
      | cons p l ih => exact fun hh => .cons (hh p List.mem_cons_self) (ih fun q hq => hh q (List.mem_cons_of_mem _ hq))
    rw [Array.toList_map]
    exact this _ fun p hp => (rel p (hz.mem_iff.mp hp)).1
  · rw [List.pairwise_map, List.pairwise_iff_getElem]
    intro i j hi hj hij
    have hi' : i < arr.size := by simpa using hi
    have hj' : j < arr.size := by simpa using hj
    have z := hs i j (Nat.le_of_lt hij) hj'
    have key : ∀ m (hm : m < arr.toList.length), PyProof.Rows.KK (PyProof.Rows.G.tupKindC h sh0) arr m = keyL (g (F arr.toList[m])) := fun m hm => by
      have e : arr[m]? = some arr.toList[m] := by
        rw [← Array.getElem?_toList, List.getElem?_eq_getElem hm]
      unfold PyProof.Rows.KK
      rw [e]
      show (PyProof.Rows.G.tupKeyC h sh0 arr.toList[m].1).getD [] = _
      rw [(rel _ (hz.mem_iff.mp (List.getElem_mem hm))).2]
      rfl
    rw [key i hi, key j hj] at z
    exact z
section
variable {X : Cx} {pins : List (Addr × Obj)} {σ : L2.St} {H : Hp} {s : Shared}
/-- behind the keys: the sort, the list filled again -/
theorem sort_tail {a kS : Addr} {od : Obj} {e1 : Nat} {ts : List Addr} {its : List Value} {ks : List Nat} {g : Nat → List Int} {kA : List Value} {Hj : Hp} {sj : Shared} {st : SortSt} {E : Value → Shared → Prop} {Pq : PySem.Fin → Shared → Prop} {A : Around}
    (I : Inv X pins σ Hj sj) (ha : Hj a = some (.frz od (.lst []))) (hod : od = seqObj "list" #[] e1) (hn0 : ∀ o' u', X.H_0 a ≠ some (.frz o' u')) (hkS : Hj kS = some (.lst (ts.map V.ref))) (hne : kS ≠ a) (rv : Vals (ks.map nV) its) (h12 : ks.length ≤ 12)
    (hkA : Vals (ts.map V.ref) kA) (hl : kA.length = its.length) (hk : ∀ (i : Nat) (v : Value) (k : Nat), kA[i]? = some v → ks[i]? = some k → PyProof.Rows.G.tupKeyC sj.heap sh0 v = some (keyL (g k)))
    (hp : (arrOf st).Perm (kA.toArray.zip its.toArray)) (hs : PyProof.Rows.SortedToK (PyProof.Rows.G.tupKindC sj.heap sh0) (arrOf st) (arrOf st).size) (hf : failedOf st = none)
    (q : ∀ os : List Nat, os.Perm ks → (os.Pairwise fun a b => lexK (g b) (g a) = false) → ∀ s' : Shared, Inv X pins σ (upd (upd (upd Hj kS (.lst [])) a (.lst [])) a (.lst (os.map nV))) s' → Pq (.done (.ret .none)) s') :
    wpAny (model X.prog X.w) A (ksk_tail a false e1 (.ref kS) st) Pq E sj := by
  obtain ⟨os, hperm, hvals, hpw⟩ := sort_out (h := sj.heap) rv hl hk hp hs
  have hol : os.length ≤ 12 := by rw [hperm.length_eq]; exact h12
  obtain ⟨zk, itk, nk, rk, lk, ek⟩ := I.lstM hkS
  unfold ksk_tail
  dsimp only
  refine wpAny_bind (listUpdate_at ek rfl ?_ (by rw [List.size_toArray, ← lk]; exact zk) (Nat.zero_le _))
  have I2 := I.lset (t' := sj.toks) (ys := []) (its' := []) (f := fun _ => #[]) hkS ek rfl .nil (Nat.zero_le _)
  refine wpAny_bind (wpAny_letGo ?_)
  have ha2 : (upd Hj kS (.lst [])) a = some (.frz od (.lst [])) := by rw [upd_ne (Ne.symm hne)]; exact ha
  have hea : (sj.heap.update kS (Obj.mapSeq fun _ => (#[] : Array Value))).get? a = some (seqObj "list" #[] e1) := by
    obtain ⟨z, _⟩ := I2.hok a _ ha2
    rw [← hod]
    exact z
  refine wpAny_bind (seqEpoch_at hea rfl ?_)
  have I3 := I2.unlock ha2 hn0
  have hov : ((arrOf st).map (·.2)).size = os.length := by
    have := hvals.length
    rw [List.length_map, Array.length_toList] at this
    exact this.symm
  refine wpAny_bind (listUpdate_at hea rfl ?_ (Nat.zero_le _) (by
    show ((arrOf st).map (·.2)).size ≤ _
    rw [hov, sizeLine_eq]
    omega))
  rw [hf]
  simp only [bne_self_eq_false, Bool.false_eq_true, if_false]
  refine wpAny_pure ?_
  refine q os hperm hpw _ (I3.lset (t' := sj.toks) (ys := os.map nV) (its := []) (its' := ((arrOf st).map (·.2)).toList) upd_same hea (by show (arrOf st).map (·.2) = _; exact (Array.toArray_toList).symm) hvals ?_)
  rw [List.length_map]
  exact small (by omega)
theorem keyC_at {h : Heap} {t : Addr} {g : List Int} {P : Program} {w : World} {Hj : Hp} (hok : HOk P w Hj h) (ht : Hj t = some (.tup (g.map V.int))) : PyProof.Rows.G.tupKeyC h sh0 (.ref t) = some (keyL g) := by
  obtain ⟨_, its, r, o, ho, hc, n, hd⟩ := hok t _ ht
  exact PyProof.Rows.G.tupKeyC_of ho hc hd (by simpa using items_ints 0 r)
theorem tups_at {h : Heap} {P : Program} {w : World} {Hj : Hp} (hok : HOk P w Hj h) : ∀ {ts : List Addr} {kA : List Value}, Vals (ts.map V.ref) kA → (∀ t, t ∈ ts → ∃ x g, Hj t = some (.tup ((x :: g : List Int).map V.int))) → ∃ fs, PyProof.Rows.TupsOf h sh0 kA fs ∧ fs.length = kA.length
  | [], _, .nil, _ => ⟨[], .nil, rfl⟩
  | t :: ts, _, .cons r rs, hh => by
    obtain ⟨fs, h1, h2⟩ := tups_at hok (ts := ts) rs fun t' ht' => hh t' (List.mem_cons_of_mem _ ht')
    obtain ⟨x, g, hg⟩ := hh t List.mem_cons_self
    obtain ⟨_, its, rv, o, ho, hc, n, hd⟩ := hok t _ hg
    cases rv with
    | cons r1 r2 =>
      obtain ⟨tk, rfl⟩ := r1
      cases r
      refine ⟨_ :: fs, .cons ⟨t, o, _, n, rfl, ho, hc, hd, rfl, fun _ => ⟨x, tk, rfl⟩, fun e => absurd e (by simp [sh0])⟩ h1, by rw [List.length_cons, List.length_cons, h2]⟩
theorem sorted_key {l fo : Addr} {ks : List Nat} {g : Nat → List Int} {Q : VK} {E : Value → Shared → Prop} (I : Inv X pins σ H s) (hl : SqL X.K H l (ks.map nV)) (h12 : ks.length ≤ 12) (hg : ∀ k, ∃ x r, g k = x :: r)
    (call_ : ∀ (H1 : Hp) (s1 : Shared) (k : Nat) (u : Value), Inv X pins σ H1 s1 → Same H H1 → k ∈ ks → RelV (nV k) u → wpAny (model X.prog X.w) X.A.in1.in1 (PySem.call (.ref fo) [u]) (EP X pins σ (KeyMade H1 (g k))) (fun _ _ => False) s1)
    (q : ∀ (os : List Nat) (r : Addr) (H2 : Hp), os.Perm ks → (os.Pairwise fun a b => lexK (g b) (g a) = false) → H r = none → Same H H2 → H2 r = some (.lst (os.map nV)) → Q (.ref r) H2) :
    wpAny (model X.prog X.w) X.A (PySem.call (.builtin "sorted") [.ref l] [(Str.ofString "key", .ref fo)]) (EP X pins σ Q) E s := by
  obtain ⟨its, rv, pl, _⟩ := I.list hl
  have hlen : its.length = ks.length := by
    have := rv.length
    rw [List.length_map] at this
    exact this.symm
  have hsz12 : its.length ≤ sizeLine := small (by omega)
  refine call_function_entry_kw kind_sorted plain_sorted entry_sorted (ksk_s1 _ _) ?_
  unfold Builtin.«sorted»
  refine wpAny_bind (m := checkCount "sorted" 1 1 _) (wpAny_pure ?_)
  refine wpAny_bind (collect_list pl.isList ?_ hsz12)
  refine wpAny_bind (wpAny_newList ?_ hsz12)
  have hsz : ((s.heap.push (seqObj "list" #[] 0)).update s.heap.objs.size (Obj.mapSeq (· ++ its.toArray))).objs.size = s.heap.objs.size + 1 := by
    rw [Heap.size_update, size_push']
  have hoL : (((s.heap.push (seqObj "list" #[] 0)).update s.heap.objs.size (Obj.mapSeq (· ++ its.toArray))).push (seqObj "list" its.toArray 0)).get? (s.heap.objs.size + 1) = some (seqObj "list" its.toArray 0) := by
    rw [← hsz]
    exact Heap.get?_push_size _ rfl
  have keep : ∀ b o, s.heap.get? b = some o → (((s.heap.push (seqObj "list" #[] 0)).update s.heap.objs.size (Obj.mapSeq (· ++ its.toArray))).push (seqObj "list" its.toArray 0)).get? b = some o := fun b o e => by
    have hlt : b < s.heap.objs.size := Heap.lt_size e
    rw [Heap.get?_push_ne _ _ _ (by rw [hsz]; exact Nat.ne_of_lt (Nat.lt_succ_of_lt hlt)), Heap.get?_update_ne _ _ _ _ (Nat.ne_of_lt hlt), Heap.get?_push_ne _ _ _ (Nat.ne_of_lt hlt)]
    exact e
  have nA : H (s.heap.objs.size + 1) = none := I.hok.fresh (Nat.le_succ _)
  show wpAny _ _ _ _ _ { s with heap := ((s.heap.push (seqObj "list" #[] 0)).update s.heap.objs.size (Obj.mapSeq (· ++ its.toArray))).push (seqObj "list" its.toArray 0) }
  rw [hsz]
  have I2 : Inv X pins σ (upd H (s.heap.objs.size + 1) (.lst (ks.map nV))) { s with heap := ((s.heap.push (seqObj "list" #[] 0)).update s.heap.objs.size (Obj.mapSeq (· ++ its.toArray))).push (seqObj "list" its.toArray 0) } :=
    I.laid (t' := s.toks) keep (Nat.le_succ _) ⟨by rw [List.length_map]; exact small (by omega), its, 0, rv, hoL⟩
  generalize s.heap.objs.size + 1 = a at hoL nA I2 ⊢
  generalize (((s.heap.push (seqObj "list" #[] 0)).update s.heap.objs.size (Obj.mapSeq (· ++ its.toArray))).push (seqObj "list" its.toArray 0)) = h2 at hoL I2 ⊢
  refine wpAny_bind (wpAny_holding (wpAny_call_entry_kw slot_list_sort ⟨_, hoL, rfl⟩ entry_list_sort ?body (ksk_l1 _ _)))
  case body =>
    show wpAny (model X.prog X.w) X.A.in1.in1 (Builtin.«list.sort» ⟨[.ref a], [(Str.ofString "key", .ref fo)]⟩) _ _ _
    rw [ksk_t1]
    unfold ksk_tree
    refine wpAny_bind (listItems_at hoL rfl ?_)
    refine wpAny_bind (listUpdate_at hoL rfl ?_ (by rw [List.size_toArray]; exact hsz12) (Nat.zero_le _))
    have I3 := I2.lset (t' := s.toks) (ys := []) (its' := []) (f := fun _ => #[]) upd_same hoL rfl .nil (Nat.zero_le _)
    obtain ⟨e1, ho1⟩ : ∃ e1, (h2.update a (Obj.mapSeq fun _ => (#[] : Array Value))).get? a = some (seqObj "list" #[] e1) := ⟨_, get?_update_seq hoL fun _ => #[]⟩
    refine wpAny_bind (seqEpoch_at ho1 rfl ?_)
    refine wpAny_bind (wpAny_newTuple ?_ hsz12)
    have I4 : Inv X pins σ (upd (upd H a (.lst (ks.map nV))) a (.lst [])) { s with heap := (h2.update a (Obj.mapSeq fun _ => (#[] : Array Value))).push (seqObj "tuple" its.toArray 0) } := I3.kept (t' := s.toks) fun b u e => Heap.get?_push_of_some _ e
    refine wpAny_bind (wpAny_newList ?_ (Nat.zero_le _))
    have I5 := I4.lnew (t' := s.toks) (ys := []) (its := []) .nil (Nat.zero_le _)
    have nK : (upd (upd H a (.lst (ks.map nV))) a (.lst [])) ((h2.update a (Obj.mapSeq fun _ => (#[] : Array Value))).push (seqObj "tuple" its.toArray 0)).objs.size = none := I4.fresh
    have hao : (((h2.update a (Obj.mapSeq fun _ => (#[] : Array Value))).push (seqObj "tuple" its.toArray 0)).push (seqObj "list" #[] 0)).get? a = some (seqObj "list" #[] e1) := Heap.get?_push_of_some _ (Heap.get?_push_of_some _ ho1)
    refine wpAny_holding ?_
    show wpAny _ _ (ksk_rest a (.ref fo) false its.toArray e1 (.ref ((h2.update a (Obj.mapSeq fun _ => (#[] : Array Value))).push (seqObj "tuple" its.toArray 0)).objs.size)) _ _ { s with heap := ((h2.update a (Obj.mapSeq fun _ => (#[] : Array Value))).push (seqObj "tuple" its.toArray 0)).push (seqObj "list" #[] 0) }
    have I5 : Inv X pins σ (upd (upd (upd H a (.lst (ks.map nV))) a (.lst [])) ((h2.update a (Obj.mapSeq fun _ => (#[] : Array Value))).push (seqObj "tuple" its.toArray 0)).objs.size (.lst [])) { s with heap := ((h2.update a (Obj.mapSeq fun _ => (#[] : Array Value))).push (seqObj "tuple" its.toArray 0)).push (seqObj "list" #[] 0) } := I5
    rw [upd_upd] at I5 nK
    generalize ((h2.update a (Obj.mapSeq fun _ => (#[] : Array Value))).push (seqObj "tuple" its.toArray 0)).objs.size = kS at I5 nK ⊢
    generalize (((h2.update a (Obj.mapSeq fun _ => (#[] : Array Value))).push (seqObj "tuple" its.toArray 0)).push (seqObj "list" #[] 0)) = h5 at I5 hao ⊢
    have hkSa : kS ≠ a := fun z => by
      rw [z, upd_same] at nK
      cases nK
    have nKH : H kS = none := by
      rw [upd_ne hkSa] at nK
      exact nK
    have ha5 : (upd (upd H a (.lst [])) kS (.lst [])) a = some (.lst []) := by rw [upd_ne (Ne.symm hkSa), upd_same]
    have hn0 := I5.nofrz ha5 trivial
    obtain ⟨od, I6⟩ := I5.lock ha5 trivial
    have hod : od = seqObj "list" #[] e1 := by
      obtain ⟨z, _⟩ := I6.hok a _ upd_same
      rw [hao] at z
      exact (Option.some.inj z).symm
    have s6 : Same H (upd (upd (upd H a (.lst [])) kS (.lst [])) a (.frz od (.lst []))) := fun b o e => by
      rw [upd_ne (ne_of_none e nA), upd_ne (ne_of_none e nKH), upd_ne (ne_of_none e nA)]
      exact e
    unfold ksk_rest
    refine wpAny_bind (wpAny_rule ?_)
    first
      | rw [List.forIn_toArray]
      | (rw [← Array.forIn_toList]; simp only [List.toList_toArray])
      | rw [← Array.forIn_toList]
    refine wpAny_bind (ksk_fold (fun j s' => ∃ (Hj : Hp) (ts : List Addr), Inv X pins σ Hj s' ∧ Same H Hj ∧ Hj a = some (.frz od (.lst [])) ∧ Hj kS = some (.lst (ts.map V.ref)) ∧ ts.length = j ∧
      ∀ (i : Nat) (t : Addr) (k : Nat), ts[i]? = some t → ks[i]? = some k → Hj t = some (.tup ((g k).map V.int))) its 0 _
      ⟨_, [], I6, s6, upd_same, by rw [upd_ne hkSa, upd_same]; rfl, rfl, fun i t k e => by cases e⟩ ?step ?done)
    case step =>
      rintro j x s' hx ⟨Hj, ts, Ij, sj, haj, hkj, htl, htj⟩
      rw [Nat.zero_add] at htl ⊢
      have hj : j < ks.length := by
        have := (List.getElem?_eq_some_iff.mp hx).1
        omega
      obtain ⟨u, hu, ru⟩ := rv.get (i := j) (x := nV ks[j]) (by rw [List.getElem?_map, List.getElem?_eq_getElem hj]; rfl)
      rw [hx] at hu
      have hu := Option.some.inj hu
      subst hu
      refine wpAny_bind (wpAny_attempt (wpAny_mono (call_ Hj s' ks[j] x Ij sj (List.getElem_mem hj) ru) (fun v s'' he => ?_) fun _ _ hF => hF.elim))
      obtain ⟨v', H2, I', rv', t, rfl, nt, rfl⟩ := he
      cases rv'
      dsimp only
      have hkS2 : (upd Hj t (.tup ((g ks[j]).map V.int))) kS = some (.lst (ts.map V.ref)) := by rw [upd_ne (ne_of_none hkj nt)]; exact hkj
      obtain ⟨zk, itk, nk, rk, lk, ek⟩ := I'.lstM hkS2
      have lk2 : itk.length = j := by
        rw [List.length_map] at lk
        omega
      refine wpAny_bind (listUpdate_at ek rfl ?_ (by rw [List.size_toArray, ← lk]; exact zk) (by
        rw [Array.size_push, List.size_toArray, lk2, sizeLine_eq]
        omega))
      have I2 := I'.lset (t' := s''.toks) (ys := ts.map V.ref ++ [V.ref t]) (its' := itk ++ [.ref t]) (f := (·.push (.ref t))) hkS2 ek (by simp) (rk.append (.cons (show RelV (V.ref t) (Value.ref t) from rfl) .nil)) (by
        rw [List.length_append, List.length_map, List.length_singleton]
        exact small (by omega))
      refine wpAny_pure ⟨rfl, _, ts ++ [t], I2, fun b o e => ?_, ?_, ?_, by rw [List.length_append, htl]; rfl, fun i t' k e1' e2' => ?_⟩
      · rw [upd_ne (ne_of_none e nKH), upd_ne (ne_of_none (sj b o e) nt)]
        exact sj b o e
      · rw [upd_ne (Ne.symm hkSa), upd_ne (ne_of_none haj nt)]
        exact haj
      · rw [upd_same, List.map_append]
        rfl
      · have nkt : t' ≠ kS → (upd Hj t (.tup ((g ks[j]).map V.int))) t' = some (.tup ((g k).map V.int)) → (upd (upd Hj t (.tup ((g ks[j]).map V.int))) kS (.lst (ts.map V.ref ++ [V.ref t]))) t' = some (.tup ((g k).map V.int)) := fun n e => by
          rw [upd_ne n]
          exact e
        by_cases hi : i < ts.length
        · rw [List.getElem?_append_left hi] at e1'
          have z := htj i t' k e1' e2'
          refine nkt (ne_of z hkj (by intro q; cases q)) ?_
          rw [upd_ne (ne_of_none z nt)]
          exact z
        · rw [List.getElem?_append_right (by omega)] at e1'
          have hij : i - ts.length = 0 := by
            by_cases z : i - ts.length = 0
            · exact z
            · rw [List.getElem?_eq_none (by rw [List.length_singleton]; omega)] at e1'
              cases e1'
          rw [hij] at e1'
          have e1' : t = t' := Option.some.inj e1'
          have hi2 : i = j := by omega
          subst e1'
          rw [hi2, List.getElem?_eq_getElem hj] at e2'
          have e2' := Option.some.inj e2'
          rw [← e2']
          refine (fun n => by rw [upd_ne n, upd_same]) (Ne.symm (ne_of_none hkj nt))
    case done =>
      rintro s' ⟨Hj, ts, Ij, sj, haj, hkj, htl, htj⟩
      rw [Nat.zero_add] at htl
      obtain ⟨zk, kA, nk, rk, lk, ek⟩ := Ij.lstM hkj
      rw [List.length_map] at lk
      refine wpAny_bind (listItems_at ek rfl ?_)
      have hkl : kA.length = its.length := by omega
      have hkey : ∀ (i : Nat) (v : Value) (k : Nat), kA[i]? = some v → ks[i]? = some k → PyProof.Rows.G.tupKeyC s'.heap sh0 v = some (keyL (g k)) := fun i v k e1' e2' => by
        have hi : i < ts.length := by
          have := (List.getElem?_eq_some_iff.mp e1').1
          omega
        obtain ⟨u, hu, ru⟩ := rk.get (i := i) (x := V.ref ts[i]) (by rw [List.getElem?_map, List.getElem?_eq_getElem hi]; rfl)
        rw [e1'] at hu
        have hu := Option.some.inj hu
        subst hu
        cases ru
        exact keyC_at Ij.hok (htj i ts[i] k (List.getElem?_eq_getElem hi) e2')
      have tail := fun (st : SortSt) hp hs hf => sort_tail (A := X.A.in1.in1) (E := E) (st := st) (g := g)
        (Pq := fun fin s' => ∃ v, fin = .done (.ret v) ∧ wpAny (model X.prog X.w) X.A.in1 (do let _ ← pure v; ret (.ref a)) (fun fin s'' => ∃ v, fin = .done (.ret v) ∧ EP X pins σ Q v s'') E s') Ij haj hod hn0 hkj hkSa rv h12 rk hkl hkey hp hs hf
        (fun os hperm hpw s3 I9 => ⟨_, rfl, wpAny_bind (wpAny_pure (wpAny_pure ⟨_, rfl, .ref a, _, I9, rfl, q os a _ hperm hpw nA (fun b o e => by
          have na : b ≠ a := ne_of_none e nA
          rw [upd_ne na, upd_ne na, upd_ne (ne_of_none e nKH)]
          exact sj b o e) upd_same⟩))⟩)
      unfold ksk_end
      simp only [Bool.false_eq_true, if_false]
      have hzs : (kA.toArray.zip its.toArray).size = its.length := by rw [Array.size_zip, List.size_toArray, List.size_toArray, hkl, Nat.min_self]
      by_cases h2 : its.toArray.size < 2
      · rw [if_pos h2, if_pos h2]
        refine wpAny_bind (wpAny_pure ?_)
        rw [StateT.run_pure]
        refine wpAny_bind (wpAny_pure ?_)
        refine tail (SortSt.mk' general' (kA.toArray.zip its.toArray) #[] 7 none) (Array.Perm.refl _) ?_ rfl
        intro i j hij hj
        have hj2 : j < (kA.toArray.zip its.toArray).size := hj
        rw [hzs] at hj2
        rw [List.size_toArray] at h2
        have : i = j := by omega
        subst this
        exact PyProof.Rows.KeyOrd.kle_refl _
      · rw [if_neg h2, if_neg h2]
        rw [List.size_toArray] at h2
        obtain ⟨fs, ht, hfl⟩ := tups_at Ij.hok rk (fun t ht => by
          obtain ⟨i, hi, e⟩ := List.getElem_of_mem ht
          have hik : i < ks.length := by omega
          obtain ⟨x, r, hgx⟩ := hg ks[i]
          refine ⟨x, r, ?_⟩
          rw [← hgx]
          exact htj i t ks[i] (by rw [List.getElem?_eq_getElem hi, e]) (List.getElem?_eq_getElem hik))
        refine wpAny_bind (PyProof.Rows.tup_kind (shape := sh0) (by omega) ht ?_)
        refine wpAny_bind (wpAny_mono (PyProof.Rows.G.wpS_sortRunsSt (κ := PyProof.Rows.G.tupKindC s'.heap sh0) (kd := PyProof.Rows.tuples' true) (a₀ := kA.toArray.zip its.toArray) (st := SortSt.mk' (PyProof.Rows.tuples' true) (kA.toArray.zip its.toArray) #[] 7 none)
          (Q := fun _ st' => (arrOf st').Perm (kA.toArray.zip its.toArray) ∧ failedOf st' = none ∧ PyProof.Rows.SortedToK (PyProof.Rows.G.tupKindC s'.heap sh0) (arrOf st') (kA.toArray.zip its.toArray).size)
          (PyProof.Rows.G.tupC_ltAt true (PyProof.Rows.G.KeepsTups.refl _)) ?keys ⟨Array.Perm.refl _, rfl, rfl⟩ rfl (PyProof.Rows.Stable.refl _) (by rw [hzs]; omega) fun st' a1 a2 a3 _ => ⟨a1, a2, a3⟩) ?_ fun _ _ e => e)
        case keys =>
          intro p hp
          have hp : p ∈ kA.zip its := by simpa using hp
          obtain ⟨i, hi, e⟩ := List.getElem_of_mem hp
          have e1' : (kA.zip its)[i]? = some p := by rw [List.getElem?_eq_getElem hi, e]
          rw [List.getElem?_zip_eq_some] at e1'
          have hik : i < ks.length := by
            have := (List.getElem?_eq_some_iff.mp e1'.1).1
            omega
          exact ⟨_, hkey i p.1 ks[i] e1'.1 (List.getElem?_eq_getElem hik)⟩
        rintro ⟨⟨⟩, st'⟩ s3 ⟨rfl, hp, hf, hs⟩
        exact tail st' hp (by rw [hp.size_eq]; exact hs) hf
end
end Cg

end
section
set_option Elab.async false
set_option linter.all false
set_option maxRecDepth 100000
set_option maxHeartbeats 4000000
namespace Cg
open PySem PySem.Spec PyProof.Rows L2
open PySem.W (kla_obj kla_fn envX tabObj CodeHd)
/-! ## A lambda that reads one name from around it -/
def cxLam (P : Program) (w : World) (K : PySem.W.Frag) (mg : Str → Option Value) (base : Heap) (N : List Str) (qual : Str) (scope : Scope) (fo : Addr) (cd : Value) (cl : List (Str × Addr)) (A : Around) (outer : List Env) (s : Shared) (H : Hp) : Cx where
  prog := P
  w := w
  K := K
  mg := mg
  base := base
  A := A.deeper (envX qual scope s.heap.objs.size fo cd cl)
  N := N
  s_0 := s
  H_0 := H
  env := envX qual scope s.heap.objs.size fo cd cl
  outer := outer
  stack := envX qual scope s.heap.objs.size fo cd cl :: outer
  ex := []
  fn := fun _ => false
  calm := true
  pn := []
  xe := fun _ _ => False
/-- the lambda's own names: x its parameter, y what it reads -/
structure LamScope (x y : Str) (scope : Scope) : Prop where
  kind : scope.kind = .function
  co : scope.isCoroutine = false
  gen : scope.isGenerator = false
  px : scope.names.lookup x = some .local
  py : scope.names.lookup y = some .free
  nocell : ∀ z, z ∈ scope.names → z.2 ≠ .cell
  free : ∀ z, scope.names.lookup z = some .free → z = y
theorem mem_of_lookup' {α β : Type} [BEq α] [LawfulBEq α] : ∀ {l : List (α × β)} {x : α} {b : β}, l.lookup x = some b → (x, b) ∈ l
  | [], _, _, h => by cases h
  | (k, v) :: l, x, b, h => by
    rw [List.lookup_cons] at h
    cases e : x == k with
    | true =>
      rw [e] at h
      have := eq_of_beq e
      subst this
      have h : v = b := Option.some.inj h
      rw [h]
      exact List.mem_cons_self
    | false =>
      rw [e] at h
      exact List.mem_cons_of_mem _ (mem_of_lookup' h)
theorem lam_start {P : Program} {w : World} {K : PySem.W.Frag} {mg : Str → Option Value} {base : Heap} {x y : Str} {qual : Str} {scope : Scope} {fo cc : Addr} {cd : Value} {A : Around} {outer : List Env} {s : Shared} {H : Hp} {u uy : Value} {v vy : V} {h₁ : Heap} {tk : Nat}
    (S : LamScope x y scope) (hxy : x ≠ y) (hd : A.handled = none) (e0 : Env0 P w K mg base A outer s H) (ru : RelV v u) (ruy : RelV vy uy) (hcell : s.heap.IsCell cc (some uy)) (hcc : H cc = none)
    (hns : h₁.Ns s.heap.objs.size (fun z => ([(x, u)] : List (Str × Value)).reverse.lookup z)) (hk : ∀ b o, s.heap.get? b = some o → h₁.get? b = some o) :
    Inv (cxLam P w K mg base [x, y] qual scope fo cd [(y, cc)] A outer s H) [] [some v, some vy] H { s with heap := h₁, toks := tk } := by
  have one : ∀ z c, ([(y, cc)] : List (Str × Addr)).lookup z = some c → z = y ∧ c = cc := fun z c e => by
    have := mem_of_lookup' e
    simpa using this
  have ly : ([(y, cc)] : List (Str × Addr)).lookup y = some cc := by simp
  refine ⟨⟨e0.mod, S.kind, rfl, rfl, Nat.le_refl _, fun a b c h1 h2 => (one a c h1).1.trans (one b c h2).1.symm, fun z hz => ?_, fun _ _ h => Bool.noConfusion (show false = true from h), fun _ => hd, Around.frames_deeper e0.frames, .inr ⟨rfl, rfl⟩, fun b hb => absurd (show b ∈ ([] : List Addr) from hb) (by simp),
      e0.bs, e0.bsz, fun b o _ hb => absurd (show b ∈ ([] : List Addr) from hb) (by simp), fun b hb => absurd (show b ∈ ([] : List Addr) from hb) (by simp), e0.funs, e0.frf⟩,
    rfl, e0.bare, Un.kept hk, ⟨_, hns, fun i z a e1 e2 e3 => ?_⟩, fun z c h => ?_, e0.hok.fresh (Nat.le_refl _), fun z c h => ?_, fun p hp => absurd (show p ∈ ([] : List (Addr × Obj)) from hp) (by simp), e0.hok.kept hk, rfl⟩
  · have hz : scope.names.lookup z = some .cell ∨ scope.names.lookup z = some .free := hz
    rcases hz with hz | hz
    · exact absurd rfl (S.nocell _ (mem_of_lookup' hz))
    · rw [S.free z hz]
      exact ⟨cc, ly⟩
  · match i, e1, e2 with
    | 0, e1, e2 =>
      have e1 : x = z := Option.some.inj e1
      have e2 : v = a := Option.some.inj (Option.some.inj e2)
      subst e1
      subst e2
      exact ⟨u, ru, .inl ⟨S.px, by simp⟩⟩
    | 1, e1, e2 =>
      have e1 : y = z := Option.some.inj e1
      have e2 : vy = a := Option.some.inj (Option.some.inj e2)
      subst e1
      subst e2
      obtain ⟨o, ho, hd'⟩ := hcell
      exact ⟨uy, ruy, .inr ⟨.inr S.py, cc, ly, o, hk _ _ ho, hd'⟩⟩
    | i + 2, e1, e2 => cases e1
  · obtain ⟨_, rfl⟩ := one z c h
    obtain ⟨o, ho, hd'⟩ := hcell
    exact ⟨_, o, hk _ _ ho, hd'⟩
  · obtain ⟨_, rfl⟩ := one z c h
    exact hcc
theorem lam_run {P : Program} {w : World} {K : PySem.W.Frag} {mg : Str → Option Value} {base : Heap} {k : Nat} {x y : Str} {name qual : Str} {params : Arguments} {body : Expr} {scope : Scope} {fo cc c' : Addr} {pm ctv : Value} {A : Around} {outer : List Env} {s : Shared} {H : Hp} {u uy : Value} {v vy : V} {t : TE} {Q : VK}
    (S : LamScope x y scope) (hxy : x ≠ y) (hr : Room k A) (e0 : Env0 P w K mg base A outer s H) (ru : RelV v u) (ruy : RelV vy uy) (hcell : s.heap.IsCell cc (some uy)) (hcc : H cc = none)
    (ho : s.heap.get? fo = some (kla_obj name qual params body scope [(y, cc)] pm c' ctv)) (hcd : s.heap.CodeRec (.ref c') qual) (hb : bindArgs (kla_fn name qual params body scope [(y, cc)] pm (.ref c') ctv) ⟨[u], []⟩ = pure [(x, u)])
    (hp : PE (cxLam P w K mg base [x, y] qual scope fo (.ref c') [(y, cc)] A outer s H) body t) (q : t [some v, some vy] H Q) :
    codeAny (model P w) A (.call (.ref fo) ⟨[u], []⟩) (fun r s' => match r with
      | .ok (.ret u') => CE outer P w H s Q u' s'
      | _ => False) s := by
  have lim : s.heap.NoLimit := e0.mod.nolimit.keeps fun b o e => (e0.bs b o e).1
  refine PySem.W.kla_callFunE hr.depth ho rfl S.co S.gen rfl hcd ?_
  rw [hb]
  refine wpAny_pure (wpAny_newFunctionEnv S.nocell (fun z hz => ?_) (fun h₁ hns hsb => ⟨lim.fresh _ hsb, ?_⟩) S.kind)
  · have hz : z = (x, u) := by simpa using hz
    rw [hz]
    exact S.px
  have hk : ∀ b o, s.heap.get? b = some o → h₁.get? b = some o := fun b o e => hsb.extBut b o (Nat.ne_of_lt (Heap.lt_size e)) (Heap.get?_push_of_some _ e)
  have I := lam_start (fo := fo) (cd := .ref c') (qual := qual) (tk := s.toks + 1) S hxy hr.hd e0 ru ruy hcell hcc hns hk
  show codeAny _ _ (.expr body (envX qual scope s.heap.objs.size fo (.ref c') [(y, cc)])) _ _
  refine PySem.W.kla_codeExpr (wpAny_mono (hp [] _ _ H Q I q) (fun u' s' he => ?_) fun _ _ z => False.elim z)
  obtain ⟨v', H', J, rv, q'⟩ := he
  exact ⟨v', H', J.os, J.bare, J.base, J.hok, rv, q'⟩
end Cg

end
section
set_option Elab.async false
set_option linter.all false
set_option maxRecDepth 100000
set_option maxHeartbeats 4000000
namespace Cg
open PySem PySem.Spec PyProof.Rows L2
open PySem.W (kla_obj kla_fn envX tabObj CodeHd)
/-- all that was tracked is as it was, the table at P aside -/
def SameT (P : Addr) (H H' : Hp) : Prop := ∀ b o, b ≠ P → H b = some o → H' b = some o
theorem SameT.trans {P : Addr} {H H1 H2 : Hp} (a : SameT P H H1) (b : SameT P H1 H2) : SameT P H H2 := fun c o n h => b c o n (a c o n h)
theorem Same.t {P : Addr} {H H' : Hp} (a : Same H H') : SameT P H H' := fun b o _ h => a b o h
def codeX (c' : Addr) (qual : Str) : HO := .ext fun h => h.CodeRec (.ref c') qual
/-- the table of a def's code: the lambda's code is not there yet, or it alone -/
def LamTab (P : Addr) (pos : Pos) (qual : Str) (H : Hp) : Prop := ∃ ps, H P = some (.tbl ps) ∧ (ps = #[] ∨ ∃ c', ps = #[rawInt pos.line, rawInt pos.col, .ref c'] ∧ H c' = some (codeX c' qual))
theorem LamTab.same {P : Addr} {pos : Pos} {qual : Str} {H H' : Hp} (h : LamTab P pos qual H) (e : Same H H') : LamTab P pos qual H' := by
  obtain ⟨ps, h1, h2⟩ := h
  refine ⟨ps, e _ _ h1, ?_⟩
  rcases h2 with h2 | ⟨c', h2, h3⟩
  · exact .inl h2
  · exact .inr ⟨c', h2, e _ _ h3⟩
theorem LamTab.ne {P : Addr} {pos : Pos} {qual : Str} {H : Hp} (h : LamTab P pos qual H) {b : Addr} {o : HO} (e : H b = some o) (n : ∀ ps, o ≠ .tbl ps) : b ≠ P := fun z => by
  obtain ⟨ps, h1, _⟩ := h
  rw [z, h1] at e
  exact n ps (Option.some.inj e).symm
/-- the built-in module, as the program's own names reach it -/
def Bm (base : Heap) (mg : Str → Option Value) : Prop := ∃ bm o, mg "__builtins__" = some (.ref bm) ∧ bm ≠ builtinsNs ∧ base.get? bm = some o ∧ o.cls = .type "module" ∧ o.dict = some builtinsNs ∧ o.data = .plain
theorem codeX_ok {P : Program} {w : World} {H : Hp} {h : Heap} {c' : Addr} {qual : Str} (x : h.CodeRec (.ref c') qual) : ObjOk P w H h c' (codeX c' qual) := by
  refine ⟨x, ?_, fun h1 h2 y k => ?_⟩
  · obtain ⟨c, o, vs, t, e, ho, _⟩ := x
    cases e
    exact ⟨o, ho⟩
  · obtain ⟨c, o, vs, t, e, ho, r⟩ := y
    cases e
    exact ⟨c', o, vs, t, rfl, k o ho, r⟩
def lamX (fo : Addr) (ob : Obj) : HO := .ext fun h => h.get? fo = some ob
theorem lamX_ok {P : Program} {w : World} {H : Hp} {h : Heap} {fo : Addr} {ob : Obj} (x : h.get? fo = some ob) : ObjOk P w H h fo (lamX fo ob) :=
  ⟨x, ⟨_, x⟩, fun h1 h2 y k => k _ y⟩
section
variable {X : Cx} {pins : List (Addr × Obj)} {σ : L2.St} {H : Hp} {s : Shared}
/-- the table grows by a new code -/
theorem Inv.grow {P c' : Addr} {ps more : Array Value} {qual : Str} {h' : Heap} {t' : Nat} (I : Inv X pins σ H s) (hP : H P = some (.tbl ps)) (hx : Heap.ExtBut P s.heap h') (hc : s.heap.objs.size ≤ c') (hrec : h'.CodeRec (.ref c') qual)
    (htb : h'.get? P = some (tabObj (ps ++ more))) : Inv X pins σ (upd (upd H P (.tbl (ps ++ more))) c' (codeX c' qual)) { s with heap := h', toks := t' } := by
  have hPlt : P < s.heap.objs.size := I.hok.lt hP
  have ncP : c' ≠ P := fun z => by
    rw [z] at hc
    exact absurd (Nat.lt_of_lt_of_le hPlt hc) (Nat.lt_irrefl _)
  have nc : H c' = none := I.hok.fresh hc
  have ne : ∀ b o, s.heap.get? b = some o → b ≠ c' := fun b o e => Nat.ne_of_lt (Nat.lt_of_lt_of_le (Heap.lt_size e) hc)
  have oth : ∀ b o, H b = some o → b ≠ P → (upd (upd H P (.tbl (ps ++ more))) c' (codeX c' qual)) b = some o := fun b o e n => by
    rw [upd_ne (ne_of_none e nc), upd_ne n]
    exact e
  refine I.un ⟨fun b o e n hb he => ?_, fun b o e n hb he => ?_, fun b o e n he => ?_, fun b o e he => ?_, fun b xs e => ?_, fun b o u e => ?_, fun b qs e => ?_⟩ ?_
  · exact hx b o (fun z => by rw [z, hP] at n; cases n) e
  · exact ⟨o.slots, hx b o (fun z => by rw [z, hP] at n; cases n) e⟩
  · rw [upd_ne (ne b o e), upd_ne (fun z => by rw [z, hP] at n; cases n)]
    exact n
  · by_cases z : b = P
    · exact ⟨_, by rw [z]; exact htb⟩
    · exact ⟨o, hx b o z e⟩
  · exact oth b _ e (fun z => by rw [z, hP] at e; cases e)
  · exact oth b _ e (fun z => by rw [z, hP] at e; cases e)
  · by_cases z : b = P
    · subst z
      rw [hP] at e
      have e : HO.tbl ps = HO.tbl qs := Option.some.inj e
      injection e with e
      subst e
      exact ⟨more, by rw [upd_ne (Ne.symm ncP), upd_same]⟩
    · exact ⟨#[], by rw [oth b _ e z]; simp⟩
  · intro b o e
    by_cases z : b = c'
    · subst z
      rw [upd_same] at e
      have e := Option.some.inj e
      subst e
      exact codeX_ok hrec
    · rw [upd_ne z] at e
      by_cases z2 : b = P
      · subst z2
        rw [upd_same] at e
        have e := Option.some.inj e
        subst e
        exact htb
      · rw [upd_ne z2] at e
        refine (I.hok b o e).stay (fun d u hd hu => hx d u ?_ hu) (fun d hd => oth d _ hd (fun z3 => by rw [z3, hP] at hd; cases hd)) fun d xs hd => oth d _ hd (fun z3 => by rw [z3, hP] at hd; cases hd)
        rcases hd with hd | hd
        · rw [hd]
          exact z2
        · exact fun z3 => by
            rw [z3, hP] at hd
            cases hd
theorem lam_make {P c cc : Addr} {y : Str} {qual : Str} {params : Arguments} {body : Expr} {scope : Scope} {pos : Pos} {Qv : Value → Shared → Prop} {E : Value → Shared → Prop} (I : Inv X pins σ H s) (hT : LamTab P pos qual H) (hc : X.env.code = .ref c) (hcP : PySem.W.codeHdIn X.K c P = true) (bm : Bm X.base X.mg)
    (hdef : defaultsOf params X.env = ([], [])) (hcl : closureFor scope X.env = pure [(y, cc)]) (hq : X.env.qual ++ "<lambda>" = qual)
    (h : ∀ (fo c' : Addr) (pm ctv : Value) (s' : Shared) (H' : Hp), Inv X pins σ H' s' → SameT P H H' → LamTab P pos qual H' → H' fo = some (lamX fo (kla_obj "<lambda>" qual params body scope [(y, cc)] pm c' ctv)) → H' c' = some (codeX c' qual) → (∀ b, H' b = none → H b = none) → Qv (.ref fo) s') :
    wpAny (model X.prog X.w) X.A (eval (.Lambda params body scope pos) X.env) Qv E s := by
  subst hq
  refine PySem.W.kla_eval hdef ?_
  have C : CodeHd s.heap c P := PySem.W.codeHd_of_K I.kIn hcP
  have hgs : s.heap.Ns mainGlobals X.mg := I.mod.glob.keeps I.bk
  obtain ⟨ps, hP, hps⟩ := hT
  have hPo : s.heap.get? P = some (tabObj ps) := I.hok P _ hP
  have hgP : mainGlobals ≠ P := fun z => by
    obtain ⟨o, es, ep, e, _⟩ := I.mod.glob
    have := (I.bs _ _ e).2
    rw [z, hP] at this
    cases this
  have hbA : s.heap.BuiltinsAt X.mg P := by
    obtain ⟨b, o, b1, b2, b3, b4, b5, b6⟩ := bm
    refine ⟨b, o, b1, b2, fun z => ?_, fun z => ?_, (I.bs _ _ b3).1, b4, b5, b6⟩
    · obtain ⟨o', es, ep, e, hd, _⟩ := I.mod.glob
      rw [← z, b3] at e
      have e := Option.some.inj e
      rw [← e, b6] at hd
      cases hd
    · have := (I.bs _ _ b3).2
      rw [z, hP] at this
      cases this
  rcases hps with rfl | ⟨c', rfl, hc'⟩
  · refine PySem.W.kla_makeFunction (mg := X.mg) hcl I.ok.glob hgs hc C hPo trivial rfl hgP hbA fun c' ctv h' tk hx hge hlt hrec htb => ?_
    have I1 := Inv.grow (t' := tk) I hP hx hge hrec htb
    have I2 := I1.laid (t' := tk) (a := h'.objs.size) (o := lamX h'.objs.size (kla_obj "<lambda>" (X.env.qual ++ "<lambda>") params body scope [(y, cc)] ((X.mg "__name__").getD .none) c' ctv)) (h' := h'.push (kla_obj "<lambda>" (X.env.qual ++ "<lambda>") params body scope [(y, cc)] ((X.mg "__name__").getD .none) c' ctv))
      (fun b u e => Heap.get?_push_of_some _ e) (Nat.le_refl _) (lamX_ok (Heap.get?_push_size _ rfl))
    have hPlt : P < s.heap.objs.size := I.hok.lt hP
    have ncP : c' ≠ P := fun z => by
      rw [z] at hge
      exact absurd (Nat.lt_of_lt_of_le hPlt hge) (Nat.lt_irrefl _)
    have nfc : c' ≠ h'.objs.size := Nat.ne_of_lt hlt
    have nfP : P ≠ h'.objs.size := Nat.ne_of_lt (Heap.lt_size htb)
    have hcc : (upd (upd (upd H P (.tbl (#[] ++ #[rawInt pos.line, rawInt pos.col, .ref c']))) c' (codeX c' (X.env.qual ++ "<lambda>"))) h'.objs.size (lamX h'.objs.size (kla_obj "<lambda>" (X.env.qual ++ "<lambda>") params body scope [(y, cc)] ((X.mg "__name__").getD .none) c' ctv))) c' = some (codeX c' (X.env.qual ++ "<lambda>")) := by
      rw [upd_ne nfc, upd_same]
    have nfree : ∀ b o, H b = some o → b ≠ h'.objs.size ∧ b ≠ c' := fun b o e => by
      have hb : b < s.heap.objs.size := I.hok.lt e
      exact ⟨Nat.ne_of_lt (Nat.lt_trans (Nat.lt_of_lt_of_le hb hge) hlt), Nat.ne_of_lt (Nat.lt_of_lt_of_le hb hge)⟩
    refine h h'.objs.size c' _ ctv _ _ I2 (fun b o n e => ?_) ⟨#[] ++ #[rawInt pos.line, rawInt pos.col, .ref c'], ?_, .inr ⟨c', by simp, hcc⟩⟩ upd_same hcc fun b hb => ?_
    · rw [upd_ne (nfree b o e).1, upd_ne (nfree b o e).2, upd_ne n]
      exact e
    · rw [upd_ne nfP, upd_ne (Ne.symm ncP), upd_same]
    · cases e : H b with
      | none => rfl
      | some o =>
        rw [upd_ne (nfree b o e).1, upd_ne (nfree b o e).2] at hb
        by_cases z : b = P
        · rw [z, upd_same] at hb
          cases hb
        · rw [upd_ne z, e] at hb
          cases hb
  · have hf : codeAmong pos (#[rawInt pos.line, rawInt pos.col, .ref c'] : Array Value).toList = some (.ref c') := by
      simp [codeAmong, rawInt]
    refine PySem.W.kla_makeFunctionHit (mg := X.mg) hcl I.ok.glob hgs hc C hPo (by simp [TriplesOk, rawInt]) hf hbA fun ctv h' tk hk hsz => ?_
    have I1 := I.kept (t' := tk) hk
    have I2 := I1.laid (t' := tk) (a := h'.objs.size) (o := lamX h'.objs.size (kla_obj "<lambda>" (X.env.qual ++ "<lambda>") params body scope [(y, cc)] ((X.mg "__name__").getD .none) c' ctv)) (h' := h'.push (kla_obj "<lambda>" (X.env.qual ++ "<lambda>") params body scope [(y, cc)] ((X.mg "__name__").getD .none) c' ctv))
      (fun b u e => Heap.get?_push_of_some _ e) (Nat.le_refl _) (lamX_ok (Heap.get?_push_size _ rfl))
    have s1 : Same H (upd H h'.objs.size (lamX h'.objs.size (kla_obj "<lambda>" (X.env.qual ++ "<lambda>") params body scope [(y, cc)] ((X.mg "__name__").getD .none) c' ctv))) := same_new (I1.hok.fresh (Nat.le_refl _)) _
    exact h h'.objs.size c' _ ctv _ _ I2 (Same.t s1) (LamTab.same ⟨_, hP, .inr ⟨c', rfl, hc'⟩⟩ s1) upd_same (s1 _ _ hc') fun b hb => s1.free hb
theorem SqL.sameT {K : PySem.W.Frag} {P : Addr} {pos : Pos} {qual : Str} {H H' : Hp} {l : Addr} {xs : List V} (h : SqL K H l xs) (hT : LamTab P pos qual H) (e : SameT P H H') : SqL K H' l xs := by
  rcases h with (h | ⟨o, h⟩) | h
  · exact .inl (.inl (e _ _ (hT.ne h (by intro ps z; cases z)) h))
  · exact .inl (.inr ⟨o, e _ _ (hT.ne h (by intro ps z; cases z)) h⟩)
  · exact .inr h
def tSortK (K : PySem.W.Frag) (P : Addr) (lpos : Pos) (qual : Str) (iy : Nat) (tb te : TE) : TE := fun σ H Q => te σ H fun v H1 => ∃ (l : Addr) (ks : List Nat) (g : Nat → List Int) (vy : V), v = .ref l ∧ SqL K H1 l (ks.map nV) ∧ ks.length ≤ 12 ∧ (∀ k, ∃ x r, g k = x :: r) ∧
  LamTab P lpos qual H1 ∧ σ[iy]? = some (some vy) ∧ (∀ k, k ∈ ks → ∀ H2 : Hp, SameT P H1 H2 → tb [some (nV k), some vy] H2 (KeyMade H2 (g k))) ∧
  ∀ (os : List Nat) (r : Addr) (H2 : Hp), os.Perm ks → (os.Pairwise fun a b => lexK (g b) (g a) = false) → H1 r = none → SameT P H1 H2 → LamTab P lpos qual H2 → H2 r = some (.lst (os.map nV)) → Q (.ref r) H2
theorem pe_sortedLam {P c cc : Addr} {x y : Str} {iy : Nat} {qual : Str} {e : Expr} {params : Arguments} {body : Expr} {scope : Scope} {p pos lpos kpos : Pos} {te tb : TE} {k : Nat}
    (hg : Gl X "sorted") (hm : X.mg "sorted" = none) (hr : Room (k + 2) X.A) (bm : Bm X.base X.mg) (hc : X.env.code = .ref c) (hcP : PySem.W.codeHdIn X.K c P = true)
    (hdef : defaultsOf params X.env = ([], [])) (hcl : closureFor scope X.env = pure [(y, cc)]) (hq : X.env.qual ++ "<lambda>" = qual) (S : LamScope x y scope) (hxy : x ≠ y)
    (hy : X.N[iy]? = some y) (hyk : X.env.scope.names.lookup y = some .cell) (hyc : X.env.cells.lookup y = some cc)
    (hb : ∀ (fo c' : Addr) (pm ctv u : Value), bindArgs (kla_fn "<lambda>" qual params body scope [(y, cc)] pm (.ref c') ctv) ⟨[u], []⟩ = pure [(x, u)])
    (he : PE X e te) (hmono : ∀ σ H Q Q', (∀ v H1, Q v H1 → Q' v H1) → te σ H Q → te σ H Q') (hbody : ∀ (A : Around) (outer : List Env) (s : Shared) (H : Hp) (fo c' : Addr), PE (cxLam X.prog X.w X.K X.mg X.base [x, y] qual scope fo (.ref c') [(y, cc)] A outer s H) body tb)
    (hs : starEach [e] X.env = (false, eval e X.env) :: starEach [] X.env := by rfl) (hv : bootBuiltins "sorted" = some (.builtin "sorted")) :
    PE X (.Call (.Name "sorted" p) [e] [⟨some "key", .Lambda params body scope lpos, kpos⟩] pos) (tSortK X.K P lpos qual iy tb te) := by
  intro pins s σ H Q I h
  refine wpAny_Call_Name_kw (ld_blt I hg hm hv ?_)
  refine callWith_kw (thn ((pa_cons he pa_nil hs) pos pins s σ H (fun vs H1 => ∃ v, vs = [v] ∧ ∃ (l : Addr) (ks : List Nat) (g : Nat → List Int) (vy : V), v = .ref l ∧ SqL X.K H1 l (ks.map nV) ∧ ks.length ≤ 12 ∧ (∀ k, ∃ x r, g k = x :: r) ∧
    LamTab P lpos qual H1 ∧ σ[iy]? = some (some vy) ∧ (∀ k, k ∈ ks → ∀ H2 : Hp, SameT P H1 H2 → tb [some (nV k), some vy] H2 (KeyMade H2 (g k))) ∧
    ∀ (os : List Nat) (r : Addr) (H2 : Hp), os.Perm ks → (os.Pairwise fun a b => lexK (g b) (g a) = false) → H1 r = none → SameT P H1 H2 → LamTab P lpos qual H2 → H2 r = some (.lst (os.map nV)) → Q (.ref r) H2) I (hmono _ _ _ _ (fun v H1 z => ⟨v, rfl, z⟩) h)) ?_) (by rw [hs]; rfl) (by rw [hs]; rfl)
  rintro us s1 ⟨vs, H1, I1, r1, v, rfl, l, ks, g, vy, rfl, hl, h12, hgk, hT, hvy, hkey, hQ⟩
  obtain ⟨u, rfl, ru⟩ := r1.one
  cases ru
  refine kws_cons ?_
  refine lam_make I1 hT hc hcP bm hdef hcl hq fun fo c' pm ctv s2 H2 I2 sT hT2 hfo hc' hfree => ?_
  refine kws_nil ?_
  show wpAny _ _ (PySem.call (.builtin "sorted") [.ref l] [(Str.ofString "key", .ref fo)]) _ _ s2
  refine sorted_key I2 (SqL.sameT hl hT sT) h12 hgk (fun H3 s3 kk u3 I3 e3 hkk r3 => ?_) (fun os r H3 hp hw hn e3 hr3 => ?_)
  · obtain ⟨uy, ruy, hcell⟩ : ∃ uy, RelV vy uy ∧ s3.heap.IsCell cc (some uy) := by
      obtain ⟨m, _, hloc⟩ := I3.loc
      obtain ⟨uy, ruy, lk⟩ := hloc iy y vy hy hvy (.inr (.inl hyk))
      refine ⟨uy, ruy, ?_⟩
      rcases lk with ⟨z, _⟩ | ⟨_, c2, hc2, z⟩
      · have z : X.env.scope.names.lookup y = some .local := z
        rw [hyk] at z
        cases z
      · rw [hyc] at hc2
        have hc2 := Option.some.inj hc2
        rw [hc2]
        exact z
    refine wpAny_call (codeAny_mono (lam_run (k := k) (cc := cc) (vy := vy) S hxy (hr.in1.in1) I3.env0.in1.in1 r3 ruy hcell (I3.freeC y cc hyc) (I3.hok fo _ (e3 _ _ hfo)).1 (I3.hok c' _ (e3 _ _ hc')).1 (hb fo c' pm ctv u3) (hbody _ _ _ _ _ _) (hkey kk hkk H3 (sT.trans (Same.t e3)))) fun r s4 hq4 => ?_)
    cases r with
    | error e => exact False.elim hq4
    | ok fl =>
      cases fl with
      | ret u4 => exact I3.after hq4
      | next => exact False.elim hq4
      | brk => exact False.elim hq4
      | cont => exact False.elim hq4
  · exact hQ os r H3 hp hw (hfree r hn) (sT.trans (Same.t e3)) (hT2.same e3) hr3
end
end Cg

end
section
set_option Elab.async false
set_option linter.all false
set_option maxRecDepth 100000
set_option maxHeartbeats 4000000
namespace Cg
open PySem PySem.Spec PyProof.Rows L2
/-! ## list(range(n)) -/
theorem paired_get {α β : Type} {R : α → β → Prop} : ∀ {xs : List α} {ys : List β}, xs.length = ys.length → (∀ (i : Nat) (x : α) (y : β), xs[i]? = some x → ys[i]? = some y → R x y) → Paired R xs ys
  | [], [], _, _ => .nil
  | [], _ :: _, h, _ => by cases h
  | _ :: _, [], h, _ => by cases h
  | x :: xs, y :: ys, h, k => .cons (k 0 x y rfl rfl) (paired_get (by simpa using h) fun i a b ha hb => k (i + 1) a b ha hb)
section
variable {X : Cx}
/-- within a comprehension: the text's fragment by its own name -/
theorem pe_fldK {e : Expr} {f : Str} {pos : Pos} {ta : TE} (K : PySem.W.Frag) (hK : X.K = K) (he : PE X e ta) (hb : attributeBase e f X.env (eval e X.env) = eval e X.env) : PE X (.Attribute e f pos) (tFld K ta f) := by
  subst hK
  exact pe_fld he hb
theorem ix_listK (K : PySem.W.Frag) (hK : X.K = K) : IxR X (rIxL K) := by
  subst hK
  exact ix_list
theorem call_rng : CallR X (.type "range") (fun xs H Q => ∃ n : Nat, xs = [nV n] ∧ ∀ p, H p = none → Q (.ref p) (upd H p (.rng 0 (n : Int)))) := by
  intro pins s σ H xs us Q I r h
  obtain ⟨n, rfl, q⟩ := h
  obtain ⟨u, rfl, t, rfl⟩ := vals1 r
  refine call_range_1 ?_
  exact ⟨.ref s.heap.objs.size, _, I.laid (fun b o e => Heap.get?_push_of_some _ e) (Nat.le_refl _) (show ObjOk X.prog X.w _ _ _ (.rng 0 (n : Int)) from ⟨_, _, _, Heap.get?_push_size _ rfl⟩), rfl, q _ (I.hok.fresh (Nat.le_refl _))⟩
theorem call_listRng (hc : X.calm = true) : CallR X (.type "list") (fun xs H Q => ∃ (p : Addr) (n : Nat), xs = [.ref p] ∧ H p = some (.rng 0 (n : Int)) ∧ n ≤ 1000 ∧ ∀ l, H l = none → Q (.ref l) (upd H l (.lst ((List.range n).map nV)))) := by
  intro pins s σ H xs us Q I r h
  obtain ⟨p, n, rfl, hp, hn, q⟩ := h
  obtain ⟨u, rfl, rx⟩ := vals1 r
  cases rx
  obtain ⟨t, u, v, e⟩ := I.hok p _ hp
  refine call_list_range (n := n) (I.ok.hd hc) e (small_one (by omega) (by omega) (by omega) (by omega)) ?_ (by omega) fun h' tk acc' c' hk hS' hacc => ?_
  · rw [rangeSize_one]
    split <;> omega
  · have hv : Vals ((List.range n).map nV) acc'.toList := paired_get (by rw [List.length_map, List.length_range, Array.length_toList, hacc.1]) fun i x y hx hy => by
      rw [List.getElem?_map] at hx
      have hi : i < n := by
        have h1 := (List.getElem?_eq_some_iff.mp hy).1
        rw [Array.length_toList, hacc.1] at h1
        exact h1
      rw [List.getElem?_range hi] at hx
      have hx := Option.some.inj hx
      obtain ⟨t', e'⟩ := hacc.2 i y (by rw [← Array.getElem?_toList]; exact hy)
      rw [← hx, e']
      exact ⟨t', by rw [Int.mul_one, Int.zero_add]⟩
    refine ⟨.ref s.heap.objs.size, _, I.laid (t' := tk) hk (Nat.le_refl _) (show ObjOk X.prog X.w _ h' _ (.lst ((List.range n).map nV)) from ⟨?_, acc'.toList, c', hv, by simpa using hS'⟩), rfl, q _ (I.hok.fresh (Nat.le_refl _))⟩
    rw [List.length_map, List.length_range]
    exact small hn
end
end Cg

end
section
set_option Elab.async false
set_option linter.all false
set_option maxRecDepth 100000
set_option maxHeartbeats 4000000
namespace Cg
open PySem PySem.Spec PyProof.Rows L2
open Km437 (Cabin Party Ship)
/-! ## The ship on the heap -/
structure Cl where
  C : Addr
  P : Addr
  S : Addr
def nB (b : Bool) : V := nV (Km437.bit b)
def cabF (c : Cabin) : List (Str × V) := [("deck", nV c.deck), ("place", nV c.place), ("rank", nV c.rank), ("berths", nV c.berths), ("flat", nB c.flat), ("out", nB c.shut)]
def parF (p : Party) : List (Str × V) := [("many", nV p.many), ("rank", nV p.rank), ("flat", nB p.flat), ("cabin", vO p.cabin), ("gone", .bl p.gone)]
def shipF (lc lp : Addr) : List (Str × V) := [("cabins", .ref lc), ("parties", .ref lp)]
theorem cab_deck (c : Cabin) : (cabF c).lookup ("deck" : Str) = some (nV c.deck) := rfl
theorem cab_place (c : Cabin) : (cabF c).lookup ("place" : Str) = some (nV c.place) := rfl
theorem cab_rank (c : Cabin) : (cabF c).lookup ("rank" : Str) = some (nV c.rank) := rfl
theorem cab_berths (c : Cabin) : (cabF c).lookup ("berths" : Str) = some (nV c.berths) := rfl
theorem cab_flat (c : Cabin) : (cabF c).lookup ("flat" : Str) = some (nB c.flat) := rfl
theorem cab_out (c : Cabin) : (cabF c).lookup ("out" : Str) = some (nB c.shut) := rfl
theorem par_many (p : Party) : (parF p).lookup ("many" : Str) = some (nV p.many) := rfl
theorem par_rank (p : Party) : (parF p).lookup ("rank" : Str) = some (nV p.rank) := rfl
theorem par_flat (p : Party) : (parF p).lookup ("flat" : Str) = some (nB p.flat) := rfl
theorem par_cabin (p : Party) : (parF p).lookup ("cabin" : Str) = some (vO p.cabin) := rfl
theorem par_gone (p : Party) : (parF p).lookup ("gone" : Str) = some (.bl p.gone) := rfl
theorem ship_cabins (lc lp : Addr) : (shipF lc lp).lookup ("cabins" : Str) = some (.ref lc) := rfl
theorem ship_parties (lc lp : Addr) : (shipF lc lp).lookup ("parties" : Str) = some (.ref lp) := rfl
def CabAt (C : Cl) (H : Hp) (a : Addr) (c : Cabin) : Prop := ∃ dx, H a = some (.ins C.C dx (cabF c))
def ParAt (C : Cl) (H : Hp) (a : Addr) (p : Party) : Prop := ∃ dx, H a = some (.ins C.P dx (parF p))
/-- the addresses of a ship's parts -/
structure Sh where
  dx : Addr
  lc : Addr
  lp : Addr
  cs : List Addr
  ps : List Addr
structure ShipAt (C : Cl) (H : Hp) (a : Addr) (z : Sh) (s : Ship) : Prop where
  ship : H a = some (.ins C.S z.dx (shipF z.lc z.lp))
  lc : H z.lc = some (.lst (z.cs.map V.ref))
  lp : H z.lp = some (.lst (z.ps.map V.ref))
  ne : z.lc ≠ z.lp
  clen : z.cs.length = s.cabins.length
  plen : z.ps.length = s.parties.length
  cab : ∀ (i : Nat) (b : Addr) (c : Cabin), z.cs[i]? = some b → s.cabins[i]? = some c → CabAt C H b c
  par : ∀ (i : Nat) (b : Addr) (p : Party), z.ps[i]? = some b → s.parties[i]? = some p → ParAt C H b p
  cnd : z.cs.Nodup
  pnd : z.ps.Nodup
theorem ShipAt.keep {C : Cl} {H H' : Hp} {a : Addr} {z : Sh} {s : Ship} (h : ShipAt C H a z s) (k : ∀ b o, H b = some o → (∀ ps, o ≠ .tbl ps) → H' b = some o) : ShipAt C H' a z s :=
  ⟨k _ _ h.ship (by intro ps e; cases e), k _ _ h.lc (by intro ps e; cases e), k _ _ h.lp (by intro ps e; cases e), h.ne, h.clen, h.plen,
    fun i b c e1 e2 => let ⟨dx, e⟩ := h.cab i b c e1 e2; ⟨dx, k _ _ e (by intro ps e; cases e)⟩, fun i b c e1 e2 => let ⟨dx, e⟩ := h.par i b c e1 e2; ⟨dx, k _ _ e (by intro ps e; cases e)⟩, h.cnd, h.pnd⟩
theorem ShipAt.same {C : Cl} {H H' : Hp} {a : Addr} {z : Sh} {s : Ship} (h : ShipAt C H a z s) (e : Same H H') : ShipAt C H' a z s := h.keep fun b o x _ => e b o x
theorem ShipAt.sameT {C : Cl} {H H' : Hp} {a : Addr} {z : Sh} {s : Ship} {P : Addr} {pos : Pos} {qual : Str} (h : ShipAt C H a z s) (hT : LamTab P pos qual H) (e : SameT P H H') : ShipAt C H' a z s := h.keep fun b o x n => e b o (hT.ne x n) x
theorem ShipAt.cabAt {C : Cl} {H : Hp} {a : Addr} {z : Sh} {s : Ship} (h : ShipAt C H a z s) {k : Nat} (hk : k < s.cabins.length) : ∃ b dx, z.cs[k]? = some b ∧ H b = some (.ins C.C dx (cabF (s.cabin k))) := by
  have hk' : k < z.cs.length := by rw [h.clen]; exact hk
  obtain ⟨dx, e⟩ := h.cab k _ _ (List.getElem?_eq_getElem hk') (List.getElem?_eq_getElem hk)
  refine ⟨_, dx, List.getElem?_eq_getElem hk', ?_⟩
  unfold Ship.cabin
  rw [List.getD_eq_getElem?_getD, List.getElem?_eq_getElem hk]
  exact e
theorem ShipAt.parAt {C : Cl} {H : Hp} {a : Addr} {z : Sh} {s : Ship} (h : ShipAt C H a z s) {p : Nat} (hp : p < s.parties.length) : ∃ b dx, z.ps[p]? = some b ∧ H b = some (.ins C.P dx (parF (s.party p))) := by
  have hp' : p < z.ps.length := by rw [h.plen]; exact hp
  obtain ⟨dx, e⟩ := h.par p _ _ (List.getElem?_eq_getElem hp') (List.getElem?_eq_getElem hp)
  refine ⟨_, dx, List.getElem?_eq_getElem hp', ?_⟩
  unfold Ship.party
  rw [List.getD_eq_getElem?_getD, List.getElem?_eq_getElem hp]
  exact e
/-- what of the text the classes must have -/
structure Txt (K : PySem.W.Frag) (C : Cl) : Prop where
  cC : Cls K C.C
  cP : Cls K C.P
  cS : Cls K C.S
  c1 : NoAttr K C.C "deck"
  c2 : NoAttr K C.C "place"
  c3 : NoAttr K C.C "rank"
  c4 : NoAttr K C.C "berths"
  c5 : NoAttr K C.C "flat"
  c6 : NoAttr K C.C "out"
  p1 : NoAttr K C.P "many"
  p2 : NoAttr K C.P "rank"
  p3 : NoAttr K C.P "flat"
  p4 : NoAttr K C.P "cabin"
  p5 : NoAttr K C.P "gone"
  s1 : NoAttr K C.S "cabins"
  s2 : NoAttr K C.S "parties"
theorem list_at {bs : List Addr} {k : Nat} {b : Addr} (h : bs[k]? = some b) : atI (bs.map V.ref) (k : Int) = some (V.ref b) := atI_nat (by rw [List.getElem?_map, h]; rfl)
abbrev sHasC : Stmt := inClass (top 10) 1
abbrev sHasP : Stmt := inClass (top 10) 2
abbrev sIsAt : Stmt := inClass (top 10) 3
abbrev sIsFree : Stmt := inClass (top 10) 6
abbrev sBeside : Stmt := inClass (top 10) 4
abbrev sHolder : Stmt := inClass (top 10) 5
abbrev sAllC : Stmt := inClass (top 10) 7
abbrev sFreeAm : Stmt := inClass (top 10) 8
abbrev sHoused : Stmt := inClass (top 10) 12
abbrev sBetter : Stmt := inClass (top 10) 13
abbrev sFrees : Stmt := inClass (top 10) 9
abbrev sWaits : Stmt := inClass (top 10) 10
abbrev sWaiting : Stmt := inClass (top 10) 11
abbrev sDoes : Stmt := inClass (top 10) 14
/-! ## The methods that only ask -/
def spHasC (C : Cl) : Sp := fun vs H Q _ => ∃ (a : Addr) (z : Sh) (s : Ship) (k : Nat), vs = [.ref a, nV k] ∧ ShipAt C H a z s ∧ Q (.bl (decide (k < s.cabins.length))) H
def spHasP (C : Cl) : Sp := fun vs H Q _ => ∃ (a : Addr) (z : Sh) (s : Ship) (p : Nat), vs = [.ref a, nV p] ∧ ShipAt C H a z s ∧ Q (.bl (s.is p)) H
def spIsAt (C : Cl) : Sp := fun vs H Q _ => ∃ (a : Addr) (z : Sh) (s : Ship) (d p : Nat), vs = [.ref a, nV d, nV p] ∧ ShipAt C H a z s ∧ Q (.bl (s.cabins.any fun c => c.deck == d && c.place == p)) H
def spHolder (C : Cl) : Sp := fun vs H Q _ => ∃ (a : Addr) (z : Sh) (s : Ship) (k : Nat), vs = [.ref a, nV k] ∧ ShipAt C H a z s ∧ s.parties.length ≤ 8 ∧ Q (vO (s.who k)) H
def spIsFree (C : Cl) : Sp := fun vs H Q _ => ∃ (a : Addr) (z : Sh) (s : Ship) (k : Nat), vs = [.ref a, nV k] ∧ ShipAt C H a z s ∧ s.parties.length ≤ 8 ∧ Q (.bl (s.who k).isNone) H
def spDoes (C : Cl) : Sp := fun vs H Q _ => ∃ (a : Addr) (z : Sh) (s : Ship) (p k : Nat), vs = [.ref a, nV p, nV k] ∧ ShipAt C H a z s ∧ p < s.parties.length ∧ k < s.cabins.length ∧ Q (.bl (Km437.does (s.cabin k) (s.party p))) H
def spWaits (C : Cl) : Sp := fun vs H Q _ => ∃ (a : Addr) (z : Sh) (s : Ship) (p : Nat), vs = [.ref a, nV p] ∧ ShipAt C H a z s ∧ p < s.parties.length ∧ Q (.bl (!(s.party p).gone && (s.party p).cabin.isNone)) H
def spFrees (C : Cl) : Sp := fun vs H Q _ => ∃ (a : Addr) (z : Sh) (s : Ship), vs = [.ref a] ∧ ShipAt C H a z s ∧ s.cabins.length ≤ 12 ∧ s.parties.length ≤ 8 ∧ ∀ (H' : Hp) (r : Addr), H r = none → Same H H' → LstN H' r s.frees → Q (.ref r) H'
def spAllC (C : Cl) : Sp := fun vs H Q _ => ∃ (a : Addr) (z : Sh) (s : Ship), vs = [.ref a] ∧ ShipAt C H a z s ∧ s.cabins.length ≤ 12 ∧ ∀ (H' : Hp) (r : Addr), H r = none → Same H H' → LstN H' r (List.range s.cabins.length) → Q (.ref r) H'
def spFreeAm (C : Cl) : Sp := fun vs H Q _ => ∃ (a l : Addr) (z : Sh) (s : Ship) (ks : List Nat), vs = [.ref a, .ref l] ∧ ShipAt C H a z s ∧ s.parties.length ≤ 8 ∧ LstN H l ks ∧ ks.length ≤ 12 ∧ ∀ (H' : Hp) (r : Addr), H r = none → Same H H' → LstN H' r (ks.filter fun k => (s.who k).isNone) → Q (.ref r) H'
def spHoused (C : Cl) : Sp := fun vs H Q _ => ∃ (a : Addr) (z : Sh) (s : Ship), vs = [.ref a] ∧ ShipAt C H a z s ∧ s.parties.length ≤ 8 ∧ ∀ (H' : Hp) (r : Addr), H r = none → Same H H' → LstN H' r ((List.range s.parties.length).filter fun p => (s.party p).cabin.isSome) → Q (.ref r) H'
def spBetter (C : Cl) : Sp := fun vs H Q _ => ∃ (a : Addr) (z : Sh) (s : Ship) (p k : Nat), vs = [.ref a, nV p] ∧ ShipAt C H a z s ∧ p < s.parties.length ∧ (s.party p).cabin = some k ∧ k < s.cabins.length ∧ Q (.bl (decide ((s.party p).rank < (s.cabin k).rank))) H
def spBeside (C : Cl) : Sp := fun vs H Q _ => ∃ (a : Addr) (z : Sh) (s : Ship) (k j : Nat), vs = [.ref a, nV k, nV j] ∧ ShipAt C H a z s ∧ k < s.cabins.length ∧ j < s.cabins.length ∧ Q (.bl (Km437.beside (s.cabin k) (s.cabin j))) H
def spWaiting (C : Cl) : Sp := fun vs H Q _ => ∃ (a : Addr) (z : Sh) (s : Ship), vs = [.ref a] ∧ ShipAt C H a z s ∧ s.parties.length ≤ 8 ∧ ∀ (H' : Hp) (r : Addr), H r = none → Same H H' → LstN H' r s.waits → Q (.ref r) H'
section
variable {P : Program} {w : World} {K : PySem.W.Frag} {mg : Str → Option Value} {base : Heap} {C : Cl}
theorem scHasC : FnScope ["self", "k"] ["self", "k"] (defScope sHasC) := ⟨rfl, rfl, rfl, by decide +kernel, rfl, by decide +kernel, by decide +kernel⟩
theorem ok_hasC {f : Addr} {fd : FuncData} (F : Fun K "has_cabin" "Ship.has_cabin" sHasC f fd) (T : Txt K C) (ml : mg "len" = none) : FnOk P w K mg base CX0 1 f fd ["self", "k"] (spHasC C) := by
  refine F.ok scHasC (fun vs H Q E h => ?_) (fun cdv A outer s H vs Q E hr h => ?_)
  · obtain ⟨a, z, s, k, rfl, _⟩ := h
    rfl
  obtain ⟨a, z, sh, k, rfl, hS, q⟩ := h
  refine ⟨_, pss_one (ps_ret (pe_cmpR op_lt (pv 1) (pe_callB call_len_seq rfl ml PySem.boot_len (pa_cons (pe_fld (pv 0) rfl) pa_nil)) (nomark _))), ?_⟩
  refine ⟨_, rfl, _, rfl, a, C.S, z.dx, _, _, rfl, hS.ship, T.cS, T.s1, ship_cabins _ _, z.lc, _, rfl, .inl (SqL.of hS.lc), _, _, rfl, rfl, ?_⟩
  have e : decide ((k : Int) < (((z.cs.map V.ref).length : Nat) : Int)) = decide (k < sh.cabins.length) := by
    rw [List.length_map, hS.clen]
    simp
  rw [← e] at q
  exact q
theorem scHasP : FnScope ["self", "p"] ["self", "p"] (defScope sHasP) := ⟨rfl, rfl, rfl, by decide +kernel, rfl, by decide +kernel, by decide +kernel⟩
theorem ok_hasP {f : Addr} {fd : FuncData} (F : Fun K "has_party" "Ship.has_party" sHasP f fd) (T : Txt K C) (ml : mg "len" = none) : FnOk P w K mg base CX0 1 f fd ["self", "p"] (spHasP C) := by
  refine F.ok scHasP (fun vs H Q E h => ?_) (fun cdv A outer s H vs Q E hr h => ?_)
  · obtain ⟨a, z, s, k, rfl, _⟩ := h
    rfl
  obtain ⟨a, z, sh, p, rfl, hS, q⟩ := h
  refine ⟨_, pss_one (ps_ret (pe_and (pe_cmpR op_lt (pv 1) (pe_callB call_len_seq rfl ml PySem.boot_len (pa_cons (pe_fld (pv 0) rfl) pa_nil)) (nomark _)) (pe_one (pe_not (pe_fld (pe_ix ix_list (pe_fld (pv 0) rfl) (pv 1) (fun _ _ => rfl)) rfl))))), ?_⟩
  refine ⟨_, rfl, _, rfl, a, C.S, z.dx, _, _, rfl, hS.ship, T.cS, T.s2, ship_parties _ _, z.lp, _, rfl, .inl (SqL.of hS.lp), _, _, rfl, rfl, _, rfl, ?_⟩
  have e : decide ((p : Int) < (((z.ps.map V.ref).length : Nat) : Int)) = decide (p < sh.parties.length) := by
    rw [List.length_map, hS.plen]
    simp
  rw [e]
  by_cases hp : p < sh.parties.length
  · refine yes (decide_eq_true hp) ?_
    obtain ⟨b, dx, hb, hb2⟩ := hS.parAt hp
    refine ⟨_, rfl, a, C.S, z.dx, _, _, rfl, hS.ship, T.cS, T.s2, ship_parties _ _, _, rfl, z.lp, _, _, _, rfl, rfl, SqL.of hS.lp, list_at hb, b, C.P, dx, _, _, rfl, hb2, T.cP, T.p5, par_gone _, _, rfl, ?_⟩
    have e2 : sh.is p = !(sh.party p).gone := by
      unfold Ship.is
      rw [decide_eq_true hp, Bool.true_and]
    rw [e2] at q
    exact q
  · refine no (decide_eq_false hp) ?_
    have e2 : sh.is p = false := by
      unfold Ship.is
      rw [decide_eq_false hp, Bool.false_and]
    rw [e2] at q
    exact q
theorem nV_eq (a b : Nat) : decide (nV a = nV b) = (a == b) := by
  rw [Bool.eq_iff_iff, decide_eq_true_eq, beq_iff_eq]
  exact ⟨nV_inj, fun h => by rw [h]⟩
theorem nB_one (b : Bool) : decide (nB b = V.int 1) = b := by
  cases b <;> decide
theorem nB_zero (b : Bool) : decide (nB b = V.int 0) = !b := by
  cases b <;> decide
theorem vO_non (o : Option Nat) : decide (vO o = V.non) = o.isNone := by
  cases o with
  | none => rfl
  | some c => exact decide_eq_false (by intro z; cases z)
theorem vO_eq (o : Option Nat) (k : Nat) : scal (vO o) (nV k) = true ∧ decide (vO o = nV k) = (o == some k) := by
  cases o with
  | none => exact ⟨rfl, decide_eq_false (by intro z; cases z)⟩
  | some c =>
    refine ⟨rfl, ?_⟩
    show decide (nV c = nV k) = _
    rw [nV_eq]
    rfl
theorem scIsAt : FnScope ["self", "deck", "place", "cabin"] ["self", "deck", "place"] (defScope sIsAt) := ⟨rfl, rfl, rfl, by decide +kernel, rfl, by decide +kernel, by decide +kernel⟩
theorem ok_isAt {f : Addr} {fd : FuncData} (F : Fun K "is_at" "Ship.is_at" sIsAt f fd) (T : Txt K C) : FnOk P w K mg base CX0 1 f fd ["self", "deck", "place"] (spIsAt C) := by
  refine F.ok scIsAt (fun vs H Q E h => ?_) (fun cdv A outer s H vs Q E hr h => ?_)
  · obtain ⟨a, z, s, d, p, rfl, _⟩ := h
    rfl
  obtain ⟨a, z, sh, d, p, rfl, hS, q⟩ := h
  refine ⟨_, pss_cons (ps_for PassesOwn.never rfl (pi_list (pe_fld (pv 0) rfl)) (pg_name (i := 3) scIsAt.nd rfl (Or.inl rfl))
    (pss_one (ps_if (PW.pt (pw_and (pt_cmpR op_eq (pe_fld (pv 3) rfl) (pv 1) (nomark _)) (pw_and1 (pt_cmpR op_eq (pe_fld (pv 3) rfl) (pv 2) (nomark _))))) (pss_one (ps_ret pe_bl)) pss_nil)))
    (pss_one (ps_ret pe_bl)), ?_⟩
  refine ⟨_, rfl, a, C.S, z.dx, _, _, rfl, hS.ship, T.cS, T.s1, ship_cabins _ _, z.lc, rfl, ⟨_, SqL.of hS.lc⟩, for_list (K := K) (a := z.lc) (xs := z.cs.map V.ref)
    (fun i σ H' => ∃ v : Option V, σ = [some (.ref a), some (nV d), some (nV p), v] ∧ H' = H ∧ ∀ (j : Nat) (c : Cabin), j < i → sh.cabins[j]? = some c → (c.deck == d && c.place == p) = false)
    ⟨none, rfl, rfl, fun j c hj => absurd hj (Nat.not_lt_zero _)⟩ (fun i σ H' _ ⟨_, _, e, _⟩ => by rw [e]; exact SqL.of hS.lc) ?_ ?_⟩
  · rintro i y σ H' hi ⟨v, rfl, rfl, hno⟩
    obtain ⟨b, hb, rfl⟩ := map_ref hi
    have hiC : i < sh.cabins.length := by
      rw [← hS.clen]
      exact (List.getElem?_eq_some_iff.mp hb).1
    obtain ⟨dx, hb2⟩ := hS.cab i b _ hb (List.getElem?_eq_getElem hiC)
    have next : (sh.cabins[i].deck == d && sh.cabins[i].place == p) = false → ∀ (j : Nat) (c : Cabin), j < i + 1 → sh.cabins[j]? = some c → (c.deck == d && c.place == p) = false := fun h j c hj hc => by
      by_cases e : j = i
      · subst e
        rw [List.getElem?_eq_getElem hiC] at hc
        rw [← Option.some.inj hc]
        exact h
      · exact hno j c (by omega) hc
    refine ⟨_, rfl, b, C.C, dx, _, _, rfl, hb2, T.cC, T.c1, cab_deck _, _, rfl, rfl, _, rfl, ?_⟩
    rw [nV_eq]
    cases e1 : sh.cabins[i].deck == d with
    | false => exact no rfl (no rfl ⟨_, rfl, rfl, next (by rw [e1]; rfl)⟩)
    | true =>
      refine yes rfl ⟨_, rfl, b, C.C, dx, _, _, rfl, hb2, T.cC, T.c2, cab_place _, _, rfl, rfl, _, rfl, ?_⟩
      rw [nV_eq]
      cases e2 : sh.cabins[i].place == p with
      | false => exact no rfl ⟨_, rfl, rfl, next (by rw [e1, e2]; rfl)⟩
      | true =>
        refine yes rfl ?_
        have : (sh.cabins.any fun c => c.deck == d && c.place == p) = true := List.any_eq_true.mpr ⟨_, List.getElem_mem hiC, by rw [e1, e2]; rfl⟩
        rw [this] at q
        exact q
  · rintro σ H' ⟨v, rfl, rfl, hno⟩
    have : (sh.cabins.any fun c => c.deck == d && c.place == p) = false := by
      rw [List.any_eq_false]
      intro c hc
      obtain ⟨i, hi, e⟩ := List.getElem_of_mem hc
      rw [hno i c (by rw [List.length_map, hS.clen]; exact hi) (by rw [List.getElem?_eq_getElem hi, e])]
      exact Bool.false_ne_true
    rw [this] at q
    exact q
theorem who_none {s : Ship} {k : Nat} : (s.who k).isNone = true ↔ ∀ p, p < s.parties.length → (s.party p).cabin ≠ some k := by
  unfold Ship.who
  rw [Option.isNone_iff_eq_none, List.find?_eq_none]
  constructor
  · intro h p hp e
    exact h p (List.mem_range.mpr hp) (by rw [e]; exact beq_self_eq_true _)
  · intro h p hp e
    exact h p (List.mem_range.mp hp) (eq_of_beq e)
theorem scHolder : FnScope ["self", "k", "p"] ["self", "k"] (defScope sHolder) := ⟨rfl, rfl, rfl, by decide +kernel, rfl, by decide +kernel, by decide +kernel⟩
theorem ok_holder {f : Addr} {fd : FuncData} (F : Fun K "holder_of" "Ship.holder_of" sHolder f fd) (T : Txt K C) (ml : mg "len" = none) (mr : mg "range" = none) : FnOk P w K mg base CX0 1 f fd ["self", "k"] (spHolder C) := by
  refine F.ok scHolder (fun vs H Q E h => ?_) (fun cdv A outer s H vs Q E hr h => ?_)
  · obtain ⟨a, z, s, k, rfl, _⟩ := h
    rfl
  obtain ⟨a, z, sh, k, rfl, hS, h8, q⟩ := h
  refine ⟨_, pss_cons (ps_for PassesOwn.never rfl (pi_range1 rfl mr (pa_cons (pe_callB call_len_seq rfl ml PySem.boot_len (pa_cons (pe_fld (pv 0) rfl) pa_nil)) pa_nil)) (pg_name (i := 2) scHolder.nd rfl (Or.inl rfl))
    (pss_one (ps_if (pt_cmpR op_eq (pe_fld (pe_ix ix_list (pe_fld (pv 0) rfl) (pv 2) (fun _ _ => rfl)) rfl) (pv 1) (nomark _)) (pss_one (ps_ret (pv 2))) pss_nil)))
    (pss_one (ps_ret pe_non)), ?_⟩
  have hlen : (z.ps.map V.ref).length = sh.parties.length := by rw [List.length_map, hS.plen]
  refine ⟨_, rfl, a, C.S, z.dx, _, _, rfl, hS.ship, T.cS, T.s2, ship_parties _ _, z.lp, _, rfl, .inl (SqL.of hS.lp), _, rfl, by omega, by omega, ?_⟩
  rw [hlen, Int.toNat_natCast]
  refine for_range (lo := 0) (n := sh.parties.length) (fun i σ H' => ∃ v : Option V, σ = [some (.ref a), some (nV k), v] ∧ H' = H ∧ ∀ j, j < i → ((sh.party j).cabin == some k) = false) ⟨none, rfl, rfl, fun j hj => absurd hj (Nat.not_lt_zero _)⟩ ?_ ?_
  · rintro i σ H' hi ⟨v, rfl, rfl, hno⟩
    have e0 : V.int (0 + (i : Nat)) = nV i := by
      show V.int (0 + (i : Int)) = V.int (i : Int)
      rw [Int.zero_add]
    rw [e0]
    obtain ⟨b, dx, hb, hb2⟩ := hS.parAt hi
    refine ⟨_, rfl, a, C.S, z.dx, _, _, rfl, hS.ship, T.cS, T.s2, ship_parties _ _, _, rfl, z.lp, _, _, _, rfl, rfl, SqL.of hS.lp, list_at hb, b, C.P, dx, _, _, rfl, hb2, T.cP, T.p4, par_cabin _, _, rfl, (vO_eq _ k).1, _, rfl, ?_⟩
    rw [(vO_eq _ k).2]
    cases e : (sh.party i).cabin == some k with
    | true =>
      refine yes rfl ⟨_, rfl, ?_⟩
      have hw : sh.who k = some i := find_at (List.getElem?_range hi) e fun j y hj hy => by
        rw [List.getElem?_range (by omega)] at hy
        rw [← Option.some.inj hy]
        exact hno j hj
      rw [hw] at q
      exact q
    | false =>
      refine no rfl ⟨_, rfl, rfl, fun j hj => ?_⟩
      by_cases ej : j = i
      · rw [ej]
        exact e
      · exact hno j (by omega)
  · rintro σ H' ⟨v, rfl, rfl, hno⟩
    have hw : sh.who k = none := find_none fun j y hy => by
      have hj := (List.getElem?_eq_some_iff.mp hy).1
      rw [List.length_range] at hj
      rw [List.getElem?_range hj] at hy
      rw [← Option.some.inj hy]
      exact hno j hj
    rw [hw] at q
    exact q
theorem scDoes : FnScope ["self", "p", "k", "party", "cabin"] ["self", "p", "k"] (defScope sDoes) := ⟨rfl, rfl, rfl, by decide +kernel, rfl, by decide +kernel, by decide +kernel⟩
theorem ok_does {f : Addr} {fd : FuncData} (F : Fun K "does" "Ship.does" sDoes f fd) (T : Txt K C) : FnOk P w K mg base CX0 1 f fd ["self", "p", "k"] (spDoes C) := by
  refine F.ok scDoes (fun vs H Q E h => ?_) (fun cdv A outer s H vs Q E hr h => ?_)
  · obtain ⟨a, z, s, p, k, rfl, _⟩ := h
    rfl
  obtain ⟨a, z, sh, p, k, rfl, hS, hp, hk, q⟩ := h
  refine ⟨_, pss_cons (ps_set (i := 3) scDoes.nd rfl (Or.inl rfl) (pe_ix ix_list (pe_fld (pv 0) rfl) (pv 1) (fun _ _ => rfl))) (pss_cons (ps_set (i := 4) scDoes.nd rfl (Or.inl rfl) (pe_ix ix_list (pe_fld (pv 0) rfl) (pv 2) (fun _ _ => rfl)))
    (pss_cons (ps_if (PW.pt (pw_or (pt_cmpR op_eq (pe_fld (pv 4) rfl) pe_int (nomark _)) (pw_or (pt_cmpR op_lt (pe_fld (pv 4) rfl) (pe_fld (pv 3) rfl) (nomark _)) (pw_or1 (pt_cmpR op_lt (pe_fld (pv 4) rfl) (pe_fld (pv 3) rfl) (nomark _)))))) (pss_one (ps_ret pe_bl)) pss_nil)
    (pss_one (ps_ret (pe_or (pe_cmpR op_eq (pe_fld (pv 4) rfl) pe_int (nomark _)) (pe_one (pe_cmpR op_eq (pe_fld (pv 3) rfl) pe_int (nomark _)))))))), ?_⟩
  obtain ⟨b, dx, hb, hb2⟩ := hS.parAt hp
  obtain ⟨c, dc, hc, hc2⟩ := hS.cabAt hk
  refine ⟨_, rfl, a, C.S, z.dx, _, _, rfl, hS.ship, T.cS, T.s2, ship_parties _ _, _, rfl, z.lp, _, _, _, rfl, rfl, SqL.of hS.lp, list_at hb, ?_⟩
  refine ⟨_, rfl, a, C.S, z.dx, _, _, rfl, hS.ship, T.cS, T.s1, ship_cabins _ _, _, rfl, z.lc, _, _, _, rfl, rfl, SqL.of hS.lc, list_at hc, ?_⟩
  refine ⟨_, rfl, c, C.C, dc, _, _, rfl, hc2, T.cC, T.c6, cab_out _, rfl, _, rfl, ?_⟩
  rw [nB_one]
  unfold Km437.does at q
  cases e1 : (sh.cabin k).shut with
  | true =>
    rw [e1] at q
    exact yes rfl (yes rfl q)
  | false =>
    rw [e1] at q
    refine no rfl ⟨_, rfl, c, C.C, dc, _, _, rfl, hc2, T.cC, T.c4, cab_berths _, _, rfl, b, C.P, dx, _, _, rfl, hb2, T.cP, T.p1, par_many _, _, _, rfl, rfl, _, rfl, ?_⟩
    by_cases h2 : (sh.cabin k).berths < (sh.party p).many
    · rw [decide_eq_false (show ¬ (sh.party p).many ≤ (sh.cabin k).berths by omega)] at q
      exact yes (decide_eq_true (by show ((_ : Nat) : Int) < ((_ : Nat) : Int); omega)) (yes rfl q)
    · rw [decide_eq_true (show (sh.party p).many ≤ (sh.cabin k).berths by omega)] at q
      refine no (decide_eq_false (by show ¬ ((_ : Nat) : Int) < ((_ : Nat) : Int); omega)) ⟨_, rfl, c, C.C, dc, _, _, rfl, hc2, T.cC, T.c3, cab_rank _, _, rfl, b, C.P, dx, _, _, rfl, hb2, T.cP, T.p2, par_rank _, _, _, rfl, rfl, _, rfl, ?_⟩
      by_cases h3 : (sh.cabin k).rank < (sh.party p).rank
      · rw [decide_eq_false (show ¬ (sh.party p).rank ≤ (sh.cabin k).rank by omega)] at q
        exact yes (decide_eq_true (by show ((_ : Nat) : Int) < ((_ : Nat) : Int); omega)) q
      · rw [decide_eq_true (show (sh.party p).rank ≤ (sh.cabin k).rank by omega)] at q
        refine no (decide_eq_false (by show ¬ ((_ : Nat) : Int) < ((_ : Nat) : Int); omega)) ⟨_, rfl, c, C.C, dc, _, _, rfl, hc2, T.cC, T.c5, cab_flat _, rfl, _, rfl, ?_⟩
        rw [nB_one]
        cases e4 : (sh.cabin k).flat with
        | true =>
          rw [e4, Bool.or_true] at q
          exact yes rfl q
        | false =>
          rw [e4, Bool.or_false] at q
          refine no rfl ⟨_, rfl, b, C.P, dx, _, _, rfl, hb2, T.cP, T.p3, par_flat _, rfl, ?_⟩
          rw [nB_zero]
          exact q
end
end Cg

end
section
set_option Elab.async false
set_option linter.all false
set_option maxRecDepth 100000
set_option maxHeartbeats 4000000
namespace Cg
open PySem PySem.Spec PyProof.Rows L2
open Km437 (Cabin Party Ship)
/-- a method of the ship as callers have it -/
structure Mt (P : Program) (w : World) (K : PySem.W.Frag) (mg : Str → Option Value) (base : Heap) (C : Addr) (k : Nat) (m : Str) (ps : List Str) (sp : Sp) (f : Addr) (fd : FuncData) : Prop where
  ok : FnOk P w K mg base CX0 k f fd ps sp
  mt : Meth K C m f
  b : Binds K fd ps []
section
variable {P : Program} {w : World} {K : PySem.W.Frag} {mg : Str → Option Value} {base : Heap} {C : Cl}
theorem ship_no {lc lp : Addr} {m : Str} (h1 : m ≠ "cabins") (h2 : m ≠ "parties") : (shipF lc lp).lookup m = none := by
  unfold shipF
  rw [List.lookup_cons, beq_eq_false_iff_ne.mpr h1, List.lookup_cons, beq_eq_false_iff_ne.mpr h2]
  rfl
theorem scWaits : FnScope ["self", "p"] ["self", "p"] (defScope sWaits) := ⟨rfl, rfl, rfl, by decide +kernel, rfl, by decide +kernel, by decide +kernel⟩
theorem ok_waits {f g : Addr} {fd gd : FuncData} (F : Fun K "waits" "Ship.waits" sWaits f fd) (T : Txt K C) (M : Mt P w K mg base C.S 1 "has_party" ["self", "p"] (spHasP C) g gd) : FnOk P w K mg base CX0 2 f fd ["self", "p"] (spWaits C) := by
  refine F.ok scWaits (fun vs H Q E h => ?_) (fun cdv A outer s H vs Q E hr h => ?_)
  · obtain ⟨a, z, s, k, rfl, _⟩ := h
    rfl
  obtain ⟨a, z, sh, p, rfl, hS, hp, q⟩ := h
  refine ⟨_, pss_one (ps_ret (pe_and (pe_meth (pv 0) T.cS M.mt M.ok hr M.b .nil pass0 (pa_cons (pv 1) pa_nil)) (pe_one (pe_cmp (pc_isN (pe_fld (pe_ix ix_list (pe_fld (pv 0) rfl) (pv 1) (fun _ _ => rfl)) rfl)))))), ?_⟩
  refine ⟨_, rfl, a, z.dx, _, rfl, hS.ship, ship_no (by decide) (by decide), _, rfl, a, z, sh, p, rfl, hS, _, rfl, ?_⟩
  have e2 : sh.is p = !(sh.party p).gone := by
    unfold Ship.is
    rw [decide_eq_true hp, Bool.true_and]
  rw [e2]
  obtain ⟨b, dx, hb, hb2⟩ := hS.parAt hp
  cases e : (sh.party p).gone with
  | true =>
    rw [e] at q
    exact no rfl q
  | false =>
    rw [e] at q
    refine yes rfl ⟨_, rfl, a, C.S, z.dx, _, _, rfl, hS.ship, T.cS, T.s2, ship_parties _ _, _, rfl, z.lp, _, _, _, rfl, rfl, SqL.of hS.lp, list_at hb, b, C.P, dx, _, _, rfl, hb2, T.cP, T.p4, par_cabin _, ?_⟩
    show Q (V.bl (decide (vO (sh.party p).cabin = V.non))) H
    rw [vO_non]
    exact q
theorem scFrees : FnScope ["self", "k"] ["self"] (defScope sFrees) := ⟨rfl, rfl, rfl, by decide +kernel, rfl, by decide +kernel, by decide +kernel⟩
theorem range_snoc (n : Nat) (f : Nat → Bool) : (List.range (n + 1)).filter f = (List.range n).filter f ++ if f n = true then [n] else [] := by
  rw [List.range_succ, List.filter_append, List.filter_cons]
  rfl
theorem lenN {n : Nat} (f : Nat → Bool) : ((List.range n).filter f).length ≤ n := Nat.le_trans (List.length_filter_le _ _) (by simp)
theorem scIsFree : FnScope ["self", "k"] ["self", "k"] (defScope sIsFree) := ⟨rfl, rfl, rfl, by decide +kernel, rfl, by decide +kernel, by decide +kernel⟩
theorem ok_isFree {f g : Addr} {fd gd : FuncData} (F : Fun K "is_free" "Ship.is_free" sIsFree f fd) (T : Txt K C) (M : Mt P w K mg base C.S 1 "holder_of" ["self", "k"] (spHolder C) g gd) : FnOk P w K mg base CX0 2 f fd ["self", "k"] (spIsFree C) := by
  refine F.ok scIsFree (fun vs H Q E h => ?_) (fun cdv A outer s H vs Q E hr h => ?_)
  · obtain ⟨a, z, s, k, rfl, _⟩ := h
    rfl
  obtain ⟨a, z, sh, k, rfl, hS, h8, q⟩ := h
  refine ⟨_, pss_one (ps_ret (pe_cmp (pc_isN (pe_meth (pv 0) T.cS M.mt M.ok hr M.b .nil pass0 (pa_cons (pv 1) pa_nil))))), ?_⟩
  refine ⟨_, rfl, a, z.dx, _, rfl, hS.ship, ship_no (by decide) (by decide), _, rfl, a, z, sh, k, rfl, hS, h8, ?_⟩
  show Q (V.bl (decide (vO (sh.who k) = V.non))) H
  rw [vO_non]
  exact q
theorem scAllC : FnScope ["self"] ["self"] (defScope sAllC) := ⟨rfl, rfl, rfl, by decide +kernel, rfl, by decide +kernel, by decide +kernel⟩
theorem ok_allC {f : Addr} {fd : FuncData} (F : Fun K "all_cabins" "Ship.all_cabins" sAllC f fd) (T : Txt K C) (ml : mg "len" = none) (mr : mg "range" = none) (mi : mg "list" = none) : FnOk P w K mg base CX0 1 f fd ["self"] (spAllC C) := by
  refine F.ok scAllC (fun vs H Q E h => ?_) (fun cdv A outer s H vs Q E hr h => ?_)
  · obtain ⟨a, z, s, rfl, _⟩ := h
    rfl
  obtain ⟨a, z, sh, rfl, hS, h12, q⟩ := h
  refine ⟨_, pss_one (ps_ret (pe_callTy (call_listRng rfl) rfl mi PyProof.Rows.boot_list (pa_cons (pe_callTy call_rng rfl mr PyProof.Rows.boot_range (pa_cons (pe_callB call_len_seq rfl ml PySem.boot_len (pa_cons (pe_fld (pv 0) rfl) pa_nil)) pa_nil)) pa_nil))), ?_⟩
  have hlen : (z.cs.map V.ref).length = sh.cabins.length := by rw [List.length_map, hS.clen]
  refine ⟨_, rfl, a, C.S, z.dx, _, _, rfl, hS.ship, T.cS, T.s1, ship_cabins _ _, z.lc, _, rfl, .inl (SqL.of hS.lc), (z.cs.map V.ref).length, rfl, fun p hp => ?_⟩
  refine ⟨p, _, rfl, upd_same, by omega, fun l hl => ?_⟩
  rw [hlen] at hl ⊢
  have s1 : Same H (upd H p (.rng 0 ((sh.cabins.length : Nat) : Int))) := same_new hp _
  exact q _ l (s1.free hl) (s1.trans (same_new hl _)) upd_same
theorem scFreeAm : FnScope ["self", "cabins", "k"] ["self", "cabins"] (defScope sFreeAm) := ⟨rfl, rfl, rfl, by decide +kernel, rfl, by decide +kernel, by decide +kernel⟩
theorem filter_snoc {l : List Nat} {i x : Nat} (f : Nat → Bool) (h : l[i]? = some x) : (l.take (i + 1)).filter f = (l.take i).filter f ++ if f x = true then [x] else [] := by
  rw [take_snoc h, List.filter_append, List.filter_cons]
  rfl
theorem ok_freeAm {f g : Addr} {fd gd : FuncData} (F : Fun K "free_among" "Ship.free_among" sFreeAm f fd) (T : Txt K C) (M : Mt P w K mg base C.S 2 "is_free" ["self", "k"] (spIsFree C) g gd) : FnOk P w K mg base CX0 3 f fd ["self", "cabins"] (spFreeAm C) := by
  refine F.ok scFreeAm (fun vs H Q E h => ?_) (fun cdv A outer s H vs Q E hr h => ?_)
  · obtain ⟨a, l, z, s, ks, rfl, _⟩ := h
    rfl
  obtain ⟨a, l, z, sh, ks, rfl, hS, h8, hL, h12, q⟩ := h
  refine ⟨_, pss_one (ps_ret (pe_lc (own := [("k", 2)]) rfl scFreeAm.nd (pi_list (pv 1)) (blkOk_by rfl) (fun _ _ _ _ _ => pg_name (i := 2) scFreeAm.nd rfl (Or.inl rfl))
    (fun _ _ _ _ _ => pts_one (pt_val (pe_meth (pv 0) T.cS M.mt M.ok hr M.b .nil pass0 (pa_cons (pv 2) pa_nil)))) (fun _ _ _ _ _ => pv 2))), ?_⟩
  refine ⟨_, rfl, l, rfl, ⟨_, SqL.of hL⟩, fun D hD => ?_⟩
  have s1 : Same H (upd H D (.lst [])) := same_new hD _
  refine lc_list (K := K) (a := l) (xs := ks.map nV) (fun i H' => Same H H' ∧ LstN H' D ((ks.take i).filter fun k => (sh.who k).isNone)) ⟨s1, upd_same⟩ (fun i H' _ h => SqL.of (h.1 _ _ hL)) ?_ ?_
  · rintro i y H' hi ⟨s2, hD2⟩
    obtain ⟨k, hk, rfl⟩ := map_nV hi
    refine ⟨rfl, _, rfl, a, z.dx, _, rfl, s2 _ _ hS.ship, ship_no (by decide) (by decide), _, rfl, a, z, sh, k, rfl, hS.same s2, h8, _, rfl, ?_⟩
    have es := filter_snoc (fun k => (sh.who k).isNone) hk
    cases e : (sh.who k).isNone with
    | true =>
      rw [e, if_pos rfl] at es
      refine yes rfl ⟨_, rfl, _, hD2, ?_, fun b u e => by rw [upd_ne (ne_of_none e hD)]; exact s2 b u e, ?_⟩
      · rw [List.length_map]
        exact small1000 (Nat.le_trans (List.length_filter_le _ _) (by rw [List.length_take]; omega))
      · show upd H' D _ D = _
        rw [upd_same, es, List.map_append]
        rfl
    | false =>
      rw [e, if_neg Bool.false_ne_true, List.append_nil] at es
      exact no rfl ⟨s2, by rw [es]; exact hD2⟩
  · rintro H' ⟨s2, hD2⟩
    rw [List.length_map, List.take_length] at hD2
    exact q H' D hD s2 hD2
theorem frees_who (s : Ship) : s.frees = (List.range s.cabins.length).filter fun k => (s.who k).isNone := by
  unfold Ship.frees
  refine List.filter_congr fun k hk => ?_
  unfold Ship.free
  rw [decide_eq_true (List.mem_range.mp hk), Bool.true_and]
theorem ok_frees {f g g2 : Addr} {fd gd gd2 : FuncData} (F : Fun K "free_cabins" "Ship.free_cabins" sFrees f fd) (T : Txt K C) (MA : Mt P w K mg base C.S 1 "all_cabins" ["self"] (spAllC C) g gd) (MF : Mt P w K mg base C.S 3 "free_among" ["self", "cabins"] (spFreeAm C) g2 gd2) : FnOk P w K mg base CX0 4 f fd ["self"] (spFrees C) := by
  refine F.ok scFrees (fun vs H Q E h => ?_) (fun cdv A outer s H vs Q E hr h => ?_)
  · obtain ⟨a, z, s, rfl, _⟩ := h
    rfl
  obtain ⟨a, z, sh, rfl, hS, h12, h8, q⟩ := h
  refine ⟨_, pss_one (ps_ret (pe_meth (pv 0) T.cS MF.mt MF.ok hr MF.b .nil pass0 (pa_cons (pe_meth0 (pv 0) T.cS MA.mt MA.ok (hr.mono (by decide)) MA.b .nil pass0) pa_nil))), ?_⟩
  refine ⟨_, rfl, a, z.dx, _, rfl, hS.ship, ship_no (by decide) (by decide), _, rfl, a, z.dx, _, rfl, hS.ship, ship_no (by decide) (by decide), a, z, sh, rfl, hS, h12, fun H1 r1 n1 s1 hr1 => ?_⟩
  refine ⟨a, r1, z, sh, _, rfl, hS.same s1, h8, hr1, by rw [List.length_range]; exact h12, fun H2 r2 n2 s2 hr2 => ?_⟩
  exact q H2 r2 (s1.free n2) (s1.trans s2) (by rw [frees_who]; exact hr2)
theorem scHoused : FnScope ["self", "p"] ["self"] (defScope sHoused) := ⟨rfl, rfl, rfl, by decide +kernel, rfl, by decide +kernel, by decide +kernel⟩
theorem ok_housed {f : Addr} {fd : FuncData} (F : Fun K "housed_parties" "Ship.housed_parties" sHoused f fd) (T : Txt K C) (ml : mg "len" = none) (mr : mg "range" = none) : FnOk P w K mg base CX0 1 f fd ["self"] (spHoused C) := by
  refine F.ok scHoused (fun vs H Q E h => ?_) (fun cdv A outer s H vs Q E hr h => ?_)
  · obtain ⟨a, z, s, rfl, _⟩ := h
    rfl
  obtain ⟨a, z, sh, rfl, hS, h8, q⟩ := h
  refine ⟨_, pss_one (ps_ret (pe_lc (own := [("p", 1)]) rfl scHoused.nd (pi_range1 rfl mr (pa_cons (pe_callB call_len_seq rfl ml PySem.boot_len (pa_cons (pe_fld (pv 0) rfl) pa_nil)) pa_nil)) (blkOk_by rfl) (fun _ _ _ _ _ => pg_name (i := 1) scHoused.nd rfl (Or.inl rfl))
    (fun _ _ _ _ _ => pts_one (pt_cmpR op_notN (pe_fldK K rfl (pe_ix (ix_listK K rfl) (pe_fldK K rfl (pv 0) rfl) (pv 1) (fun _ _ => rfl)) rfl) pe_non (nomark _))) (fun _ _ _ _ _ => pv 1))), ?_⟩
  have hlen : (z.ps.map V.ref).length = sh.parties.length := by rw [List.length_map, hS.plen]
  refine ⟨_, rfl, a, C.S, z.dx, _, _, rfl, hS.ship, T.cS, T.s2, ship_parties _ _, z.lp, _, rfl, .inl (SqL.of hS.lp), _, rfl, by omega, by omega, fun D hD => ?_⟩
  rw [hlen, Int.toNat_natCast]
  have s1 : Same H (upd H D (.lst [])) := same_new hD _
  refine lc_range (lo := 0) (n := sh.parties.length) (fun i H' => Same H H' ∧ LstN H' D ((List.range i).filter fun p => (sh.party p).cabin.isSome)) ⟨s1, upd_same⟩ ?_ ?_
  · rintro i H' hi ⟨s2, hD2⟩
    have e0 : V.int (0 + (i : Nat)) = nV i := by
      show V.int (0 + (i : Int)) = V.int (i : Int)
      rw [Int.zero_add]
    rw [e0]
    obtain ⟨b, dx, hb, hb2⟩ := hS.parAt hi
    refine ⟨rfl, _, rfl, a, C.S, z.dx, _, _, rfl, s2 _ _ hS.ship, T.cS, T.s2, ship_parties _ _, _, rfl, z.lp, _, _, _, rfl, rfl, SqL.of (s2 _ _ hS.lp), list_at hb, b, C.P, dx, _, _, rfl, s2 _ _ hb2, T.cP, T.p4, par_cabin _, rfl, _, rfl, ?_⟩
    rw [vO_non]
    have es := range_snoc i fun p => (sh.party p).cabin.isSome
    cases e : (sh.party i).cabin with
    | some c =>
      rw [e] at es
      refine yes rfl ⟨_, rfl, _, hD2, ?_, fun b u e => by rw [upd_ne (ne_of_none e hD)]; exact s2 b u e, ?_⟩
      · rw [List.length_map]
        exact small1000 (Nat.le_trans (lenN _) (by omega))
      · show upd H' D _ D = _
        rw [upd_same, es, List.map_append]
        rfl
    | none =>
      rw [e] at es
      refine no rfl ⟨s2, ?_⟩
      have es : (List.range (i + 1)).filter (fun p => (sh.party p).cabin.isSome) = (List.range i).filter (fun p => (sh.party p).cabin.isSome) ++ [] := es
      rw [es, List.append_nil]
      exact hD2
  · rintro H' ⟨s2, hD2⟩
    exact q H' D hD s2 hD2
theorem scBetter : FnScope ["self", "p", "party"] ["self", "p"] (defScope sBetter) := ⟨rfl, rfl, rfl, by decide +kernel, rfl, by decide +kernel, by decide +kernel⟩
theorem ok_better {f : Addr} {fd : FuncData} (F : Fun K "is_better" "Ship.is_better" sBetter f fd) (T : Txt K C) : FnOk P w K mg base CX0 1 f fd ["self", "p"] (spBetter C) := by
  refine F.ok scBetter (fun vs H Q E h => ?_) (fun cdv A outer s H vs Q E hr h => ?_)
  · obtain ⟨a, z, s, p, k, rfl, _⟩ := h
    rfl
  obtain ⟨a, z, sh, p, k, rfl, hS, hp, hpk, hk, q⟩ := h
  refine ⟨_, pss_cons (ps_set (i := 2) scBetter.nd rfl (Or.inl rfl) (pe_ix ix_list (pe_fld (pv 0) rfl) (pv 1) (fun _ _ => rfl)))
    (pss_one (ps_ret (pe_cmpR op_gt (pe_fld (pe_ix ix_list (pe_fld (pv 0) rfl) (pe_fld (pv 2) rfl) (fun _ _ => rfl)) rfl) (pe_fld (pv 2) rfl) (nomark _)))), ?_⟩
  obtain ⟨b, dx, hb, hb2⟩ := hS.parAt hp
  obtain ⟨c, dc, hc, hc2⟩ := hS.cabAt hk
  refine ⟨_, rfl, a, C.S, z.dx, _, _, rfl, hS.ship, T.cS, T.s2, ship_parties _ _, _, rfl, z.lp, _, _, _, rfl, rfl, SqL.of hS.lp, list_at hb, ?_⟩
  refine ⟨_, rfl, a, C.S, z.dx, _, _, rfl, hS.ship, T.cS, T.s1, ship_cabins _ _, _, rfl, b, C.P, dx, _, _, rfl, hb2, T.cP, T.p4, par_cabin _, z.lc, _, (k : Int), _, rfl, by rw [hpk]; rfl, SqL.of hS.lc, list_at hc, c, C.C, dc, _, _, rfl, hc2, T.cC, T.c3, cab_rank _, _, rfl, b, C.P, dx, _, _, rfl, hb2, T.cP, T.p2, par_rank _, _, _, rfl, rfl, ?_⟩
  have e : decide ((((sh.party p).rank : Nat) : Int) < (((sh.cabin k).rank : Nat) : Int)) = decide ((sh.party p).rank < (sh.cabin k).rank) := by
    rw [decide_eq_decide]
    omega
  rw [← e] at q
  exact q
theorem scBeside : FnScope ["self", "k", "other", "one", "two"] ["self", "k", "other"] (defScope sBeside) := ⟨rfl, rfl, rfl, by decide +kernel, rfl, by decide +kernel, by decide +kernel⟩
theorem ok_beside {f : Addr} {fd : FuncData} (F : Fun K "is_beside" "Ship.is_beside" sBeside f fd) (T : Txt K C) (ma : mg "abs" = none) : FnOk P w K mg base CX0 1 f fd ["self", "k", "other"] (spBeside C) := by
  refine F.ok scBeside (fun vs H Q E h => ?_) (fun cdv A outer s H vs Q E hr h => ?_)
  · obtain ⟨a, z, s, p, k, rfl, _⟩ := h
    rfl
  obtain ⟨a, z, sh, k, j, rfl, hS, hk, hj, q⟩ := h
  refine ⟨_, pss_cons (ps_set (i := 3) scBeside.nd rfl (Or.inl rfl) (pe_ix ix_list (pe_fld (pv 0) rfl) (pv 1) (fun _ _ => rfl))) (pss_cons (ps_set (i := 4) scBeside.nd rfl (Or.inl rfl) (pe_ix ix_list (pe_fld (pv 0) rfl) (pv 2) (fun _ _ => rfl)))
    (pss_one (ps_ret (pe_and (pe_cmpR op_eq (pe_fld (pv 3) rfl) (pe_fld (pv 4) rfl) (nomark _)) (pe_one (pe_cmpR op_eq (pe_callB call_abs rfl ma PyProof.Rows.boot_abs (pa_cons (pe_op op_sub (pe_fld (pv 3) rfl) (pe_fld (pv 4) rfl)) pa_nil)) pe_int (nomark _))))))), ?_⟩
  obtain ⟨c, dc, hc, hc2⟩ := hS.cabAt hk
  obtain ⟨e, de, he, he2⟩ := hS.cabAt hj
  refine ⟨_, rfl, a, C.S, z.dx, _, _, rfl, hS.ship, T.cS, T.s1, ship_cabins _ _, _, rfl, z.lc, _, _, _, rfl, rfl, SqL.of hS.lc, list_at hc, ?_⟩
  refine ⟨_, rfl, a, C.S, z.dx, _, _, rfl, hS.ship, T.cS, T.s1, ship_cabins _ _, _, rfl, z.lc, _, _, _, rfl, rfl, SqL.of hS.lc, list_at he, ?_⟩
  refine ⟨_, rfl, c, C.C, dc, _, _, rfl, hc2, T.cC, T.c1, cab_deck _, _, rfl, e, C.C, de, _, _, rfl, he2, T.cC, T.c1, cab_deck _, rfl, _, rfl, ?_⟩
  rw [nV_eq]
  unfold Km437.beside at q
  cases e1 : (sh.cabin k).deck == (sh.cabin j).deck with
  | false =>
    rw [e1] at q
    exact no rfl q
  | true =>
    rw [e1, Bool.true_and] at q
    refine yes rfl ⟨_, rfl, c, C.C, dc, _, _, rfl, hc2, T.cC, T.c2, cab_place _, _, rfl, e, C.C, de, _, _, rfl, he2, T.cC, T.c2, cab_place _, _, _, rfl, rfl, _, rfl, rfl, ?_⟩
    have e2 : decide (V.int (if (((sh.cabin k).place : Nat) : Int) - (((sh.cabin j).place : Nat) : Int) < 0 then -((((sh.cabin k).place : Nat) : Int) - (((sh.cabin j).place : Nat) : Int)) else (((sh.cabin k).place : Nat) : Int) - (((sh.cabin j).place : Nat) : Int)) = V.int 1) = ((sh.cabin k).place == (sh.cabin j).place + 1 || (sh.cabin j).place == (sh.cabin k).place + 1) := by
      rw [dec_int, Bool.eq_iff_iff, beq_iff_eq, Bool.or_eq_true, beq_iff_eq, beq_iff_eq]
      split <;> omega
    rw [← e2] at q
    exact q
theorem scWaiting : FnScope ["self", "p"] ["self"] (defScope sWaiting) := ⟨rfl, rfl, rfl, by decide +kernel, rfl, by decide +kernel, by decide +kernel⟩
theorem ok_waiting {f g : Addr} {fd gd : FuncData} (F : Fun K "waiting_parties" "Ship.waiting_parties" sWaiting f fd) (T : Txt K C) (M : Mt P w K mg base C.S 2 "waits" ["self", "p"] (spWaits C) g gd) (ml : mg "len" = none) (mr : mg "range" = none) : FnOk P w K mg base CX0 3 f fd ["self"] (spWaiting C) := by
  refine F.ok scWaiting (fun vs H Q E h => ?_) (fun cdv A outer s H vs Q E hr h => ?_)
  · obtain ⟨a, z, s, rfl, _⟩ := h
    rfl
  obtain ⟨a, z, sh, rfl, hS, h8, q⟩ := h
  refine ⟨_, pss_one (ps_ret (pe_lc (own := [("p", 1)]) rfl scWaiting.nd (pi_range1 rfl mr (pa_cons (pe_callB call_len_seq rfl ml PySem.boot_len (pa_cons (pe_fld (pv 0) rfl) pa_nil)) pa_nil)) (blkOk_by rfl) (fun _ _ _ _ _ => pg_name (i := 1) scWaiting.nd rfl (Or.inl rfl))
    (fun _ _ _ _ _ => pts_one (pt_val (pe_meth (pv 0) T.cS M.mt M.ok hr M.b .nil pass0 (pa_cons (pv 1) pa_nil)))) (fun _ _ _ _ _ => pv 1))), ?_⟩
  have hlen : (z.ps.map V.ref).length = sh.parties.length := by rw [List.length_map, hS.plen]
  refine ⟨_, rfl, a, C.S, z.dx, _, _, rfl, hS.ship, T.cS, T.s2, ship_parties _ _, z.lp, _, rfl, .inl (SqL.of hS.lp), _, rfl, by omega, by omega, fun D hD => ?_⟩
  rw [hlen, Int.toNat_natCast]
  have s1 : Same H (upd H D (.lst [])) := same_new hD _
  refine lc_range (lo := 0) (n := sh.parties.length) (fun i H' => Same H H' ∧ LstN H' D ((List.range i).filter fun p => !(sh.party p).gone && (sh.party p).cabin.isNone)) ⟨s1, upd_same⟩ ?_ ?_
  · rintro i H' hi ⟨s2, hD2⟩
    have e0 : V.int (0 + (i : Nat)) = nV i := by
      show V.int (0 + (i : Int)) = V.int (i : Int)
      rw [Int.zero_add]
    rw [e0]
    refine ⟨rfl, _, rfl, a, z.dx, _, rfl, s2 _ _ hS.ship, ship_no (by decide) (by decide), _, rfl, a, z, sh, i, rfl, hS.same s2, hi, _, rfl, ?_⟩
    have es := range_snoc i fun p => !(sh.party p).gone && (sh.party p).cabin.isNone
    cases e : (!(sh.party i).gone && (sh.party i).cabin.isNone) with
    | true =>
      rw [e, if_pos rfl] at es
      refine yes rfl ⟨_, rfl, _, hD2, ?_, fun b u e => by rw [upd_ne (ne_of_none e hD)]; exact s2 b u e, ?_⟩
      · rw [List.length_map]
        exact small1000 (Nat.le_trans (lenN _) (by omega))
      · show upd H' D _ D = _
        rw [upd_same, es, List.map_append]
        rfl
    | false =>
      rw [e, if_neg Bool.false_ne_true, List.append_nil] at es
      exact no rfl ⟨s2, by rw [es]; exact hD2⟩
  · rintro H' ⟨s2, hD2⟩
    exact q H' D hD s2 hD2
end
end Cg

end
section
set_option Elab.async false
set_option linter.all false
set_option maxRecDepth 100000
set_option maxHeartbeats 4000000
namespace Cg
open PySem PySem.Spec PyProof.Rows L2
open Km437 (Cabin Party Ship)
abbrev sFrugal : Stmt := top 24
abbrev sWishOf : Stmt := top 25
abbrev sWW : Stmt := top 26
abbrev sPlanOf : Stmt := top 28
abbrev sMostOf : Stmt := top 27
/-- the place of the lambda in the def that sorts by it -/
def lamPos (st : Stmt) : Pos := match defBody st with
  | [.Return (some (.Call _ _ [⟨_, .Lambda _ _ _ p, _⟩] _)) _] => p
  | _ => ⟨0, 0, 0, 0⟩
def lamBody (st : Stmt) : Expr := match defBody st with
  | [.Return (some (.Call _ _ [⟨_, .Lambda _ b _ _, _⟩] _)) _] => b
  | _ => .Constant .none 0 ⟨0, 0, 0, 0⟩
def lamScp (st : Stmt) : Scope := match defBody st with
  | [.Return (some (.Call _ _ [⟨_, .Lambda _ _ sc _, _⟩] _)) _] => sc
  | _ => { kind := .function, names := [], isGenerator := false, isCoroutine := false }
def lamQual : Str := (Str.ofString "frugal_order" ++ Str.ofString ".<locals>.") ++ Str.ofString "<lambda>"
abbrev Tab (Pt : Addr) (H : Hp) : Prop := LamTab Pt (lamPos sFrugal) lamQual H
/-- a def whose code's address is known -/
structure FunC (K : PySem.W.Frag) (x qual : Str) (st : Stmt) (f : Addr) (fd : FuncData) (c Pt : Addr) : Prop where
  ex : ∃ (oc : Value) (od : Option Addr) (kV doc pm : Value) (an : Option Addr) (ct : Value) (osl : Array (Option Value)),
    fd = PySem.W.fnOf x qual (defArgs st) (defBody st) (defScope st) .none kV doc pm an (.ref c) ct ∧ K.lookup f = some ⟨oc, od, .func fd, osl⟩ ∧ PySem.W.codeIn K (.ref c) qual = true
  kp : PySem.W.keepIn K (.ref f) = true
  cp : PySem.W.codeHdIn K c Pt = true
section
variable {P : Program} {w : World} {K : PySem.W.Frag} {mg : Str → Option Value} {base : Heap} {C : Cl}
theorem FunC.ok {x qual : Str} {st : Stmt} {f c Pt : Addr} {fd : FuncData} {N ps : List Str} {k : Nat} {sp : Sp} (F : FunC K x qual st f fd c Pt) (S : FnScope N ps (defScope st)) (len : ∀ vs H Q E, sp vs H Q E → vs.length = ps.length)
    (hbody : ∀ (A : Around) (outer : List Env) (s : Shared) (H : Hp) (vs : List V) (Q : VK) (E : XK), Room k (A.deeper (envOfC qual (defScope st) s.heap.objs.size f (.ref c))) → sp vs H Q E →
      ∃ t, PSs (cxOf CX0 P w K mg base N qual (defScope st) f (.ref c) A outer s H E).nox (defBody st) t ∧ t { nx := fun _ H' => Q .non H', rt := Q } (start N vs) H) : FnOk P w K mg base CX0 (k + 1) f fd ps sp := by
  obtain ⟨oc, od, kV, doc, pm, an, ct, osl, rfl, lk, hcd⟩ := F.ex
  refine fn_of lk hcd S len fun A outer s H vs Q E hr hsp => ?_
  obtain ⟨t, h, q⟩ := hbody A outer s H vs Q E hr hsp
  exact ⟨t, h.nox, q⟩
theorem FunC.binds {x qual : Str} {st : Stmt} {f c Pt : Addr} {fd : FuncData} {ps : List Str} (F : FunC K x qual st f fd c Pt)
    (h : ∀ (kV doc pm : Value) (an : Option Addr) (cdv ct : Value) (us : List Value), us.length = ps.length → bindArgs (PySem.W.fnOf x qual (defArgs st) (defBody st) (defScope st) .none kV doc pm an cdv ct) ⟨us, []⟩ = pure (ps.zip us)) : Binds K fd ps [] := by
  obtain ⟨oc, od, kV, doc, pm, an, ct, osl, rfl, lk, hcd⟩ := F.ex
  exact .all (h kV doc pm an (.ref c) ct)
/-! ## frugal_order -/
def gKey (s : Ship) (k : Nat) : List Int := [((s.cabin k).rank : Int), ((s.cabin k).berths : Int), (k : Int)]
theorem ord_of {s : Ship} {ks os : List Nat} (nk : ks.Nodup) (hp : os.Perm ks) (hw : os.Pairwise fun a b => lexK (gKey s b) (gKey s a) = false) : Ord s ks os := by
  refine ⟨fun c => hp.mem_iff, ?_⟩
  have nd : os.Nodup := hp.nodup_iff.mpr nk
  refine (hw.and nd).imp fun {a b} h => ?_
  obtain ⟨h1, h2⟩ := h
  have h1 : PyProof.Rows.lexLt PyProof.Rows.itemOrd [Sum.inl ((s.cabin b).rank : Int), Sum.inl ((s.cabin b).berths : Int), Sum.inl (b : Int)] [Sum.inl ((s.cabin a).rank : Int), Sum.inl ((s.cabin a).berths : Int), Sum.inl (a : Int)] = false := h1
  rw [PyProof.Rows.lex_false, PyProof.Rows.lex_false, PyProof.Rows.lex_false] at h1
  have d : ∀ x y : Int, PyProof.Rows.itemOrd.blt (Sum.inl x) (Sum.inl y) = decide (x < y) := fun x y => rfl
  simp only [PyProof.Rows.itemLt, decide_eq_false_iff_not, decide_eq_true_eq] at h1
  unfold ltc
  omega
def spFrugal (C : Cl) (Pt : Addr) : Sp := fun vs H Q _ => ∃ (a l : Addr) (z : Sh) (s : Ship) (ks : List Nat), vs = [.ref a, .ref l] ∧ ShipAt C H a z s ∧ LstN H l ks ∧ ks.length ≤ 12 ∧ ks.Nodup ∧ (∀ k, k ∈ ks → k < s.cabins.length) ∧ Tab Pt H ∧
  ∀ (H' : Hp) (r : Addr) (os : List Nat), H r = none → SameT Pt H H' → Tab Pt H' → Ord s ks os → os.length = ks.length → LstN H' r os → Q (.ref r) H'
theorem scFrugal : FnScope ["ship", "cabins"] ["ship", "cabins"] (defScope sFrugal) := ⟨rfl, rfl, rfl, by decide +kernel, rfl, by decide +kernel, by decide +kernel⟩
def tKey (K : PySem.W.Frag) : TE := tTup (tCons (tFld K (tOp (rIxL K) (tFld K (tVar 1) "cabins") (tVar 0)) "rank") (tCons (tFld K (tOp (rIxL K) (tFld K (tVar 1) "cabins") (tVar 0)) "berths") (tCons (tVar 0) tNil)))
theorem pe_key {A : Around} {outer : List Env} {s : Shared} {H : Hp} {fo c' cc : Addr} : PE (cxLam P w K mg base ["k", "ship"] lamQual (lamScp sFrugal) fo (.ref c') [("ship", cc)] A outer s H) (lamBody sFrugal) (tKey K) :=
  pe_tup (pa_cons (pe_fld (pe_ix ix_list (pe_fld (pv 1) rfl) (pv 0) (fun _ _ => rfl)) rfl) (pa_cons (pe_fld (pe_ix ix_list (pe_fld (pv 1) rfl) (pv 0) (fun _ _ => rfl)) rfl) (pa_cons (pv 0) pa_nil)))
theorem lamScope : LamScope "k" "ship" (lamScp sFrugal) := by
  refine ⟨rfl, rfl, rfl, rfl, rfl, by decide +kernel, fun z hz => ?_⟩
  have : (z, NameKind.free) ∈ ([(PySem.Str.ofString "k", PySem.NameKind.local), (PySem.Str.ofString "ship", PySem.NameKind.free)] : List (Str × NameKind)) := mem_of_lookup' hz
  simp at this
  exact this
theorem ok_frugal {f c Pt : Addr} {fd : FuncData} (F : FunC K "frugal_order" "frugal_order" sFrugal f fd c Pt) (T : Txt K C) (bm : Bm base mg) (ms : mg "sorted" = none) : FnOk P w K mg base CX0 3 f fd ["ship", "cabins"] (spFrugal C Pt) := by
  refine F.ok scFrugal (fun vs H Q E h => ?_) (fun A outer s H vs Q E hr h => ?_)
  · obtain ⟨a, l, z, s, ks, rfl, _⟩ := h
    rfl
  obtain ⟨a, l, z, sh, ks, rfl, hS, hL, h12, hnd, hlt, hT, q⟩ := h
  refine ⟨_, pss_one (ps_ret (pe_sortedLam (k := 0) (x := "k") (y := "ship") (iy := 0) (qual := lamQual) (cc := s.heap.objs.size + 1) (c := c) (P := Pt) rfl ms hr bm rfl F.cp rfl rfl rfl lamScope (by decide) rfl rfl rfl (fun _ _ _ _ _ => rfl) (pv 1) (fun σ H Q Q' hq ⟨v, e, z⟩ => ⟨v, e, hq _ _ z⟩)
    (fun _ _ _ _ _ _ => pe_key) rfl PyProof.Rows.boot_sorted)), ?_⟩
  refine ⟨_, rfl, l, ks, gKey sh, .ref a, rfl, SqL.of hL, h12, fun k => ⟨_, _, rfl⟩, hT, rfl, fun k hk H2 e2 => ?_, fun os r H2 hp hw hn e2 hT2 hr2 => ?_⟩
  · have hS2 := hS.sameT hT e2
    obtain ⟨b, dc, hb, hb2⟩ := hS2.cabAt (hlt k hk)
    refine ⟨_, rfl, a, C.S, z.dx, _, _, rfl, hS2.ship, T.cS, T.s1, ship_cabins _ _, _, rfl, z.lc, _, _, _, rfl, rfl, SqL.of hS2.lc, list_at hb, b, C.C, dc, _, _, rfl, hb2, T.cC, T.c3, cab_rank _, ?_⟩
    refine ⟨_, rfl, a, C.S, z.dx, _, _, rfl, hS2.ship, T.cS, T.s1, ship_cabins _ _, _, rfl, z.lc, _, _, _, rfl, rfl, SqL.of hS2.lc, list_at hb, b, C.C, dc, _, _, rfl, hb2, T.cC, T.c4, cab_berths _, ?_⟩
    exact ⟨_, rfl, (by show 3 ≤ sizeLine; decide), fun p hp => ⟨p, rfl, hp, rfl⟩⟩
  · exact q H2 r os hn e2 hT2 (ord_of hnd hp hw) hp.length_eq hr2
end
end Cg

end
section
set_option Elab.async false
set_option linter.all false
set_option maxRecDepth 100000
set_option maxHeartbeats 4000000
namespace Cg
open PySem PySem.Spec PyProof.Rows L2
open Km437 (Cabin Party Ship)
/-- a def of the module as callers have it -/
structure Df (P : Program) (w : World) (K : PySem.W.Frag) (mg : Str → Option Value) (base : Heap) (k : Nat) (x : Str) (ps : List Str) (sp : Sp) (f : Addr) (fd : FuncData) : Prop where
  ok : FnOk P w K mg base CX0 k f fd ps sp
  kp : PySem.W.keepIn K (.ref f) = true
  b : Binds K fd ps []
  m : mg x = some (.ref f)
def spWishOf (C : Cl) : Sp := fun vs H Q _ => ∃ (a l : Addr) (z : Sh) (s : Ship) (p : Nat) (ks : List Nat), vs = [.ref a, nV p, .ref l] ∧ ShipAt C H a z s ∧ p < s.parties.length ∧ LstN H l ks ∧ ks.length ≤ 12 ∧ (∀ k, k ∈ ks → k < s.cabins.length) ∧
  ∀ (H' : Hp) (r : Addr), H r = none → Same H H' → LstN H' r (wishL s ks p) → Q (.ref r) H'
def spWW (C : Cl) (Pt : Addr) : Sp := fun vs H Q _ => ∃ (a l : Addr) (z : Sh) (s : Ship) (ps : List Nat), vs = [.ref a, .ref l] ∧ ShipAt C H a z s ∧ s.cabins.length ≤ 12 ∧ s.parties.length ≤ 8 ∧ LstN H l ps ∧ ps.length ≤ 8 ∧ (∀ p, p ∈ ps → p < s.parties.length) ∧ Tab Pt H ∧
  ∀ (H' : Hp) (r : Addr) (os : List Nat), H r = none → SameT Pt H H' → Tab Pt H' → Ord s s.frees os → os.length ≤ 12 → RowsN H H' r (ps.map (wishL s os)) → Q (.ref r) H'
def spMostOf (C : Cl) (Pt : Addr) : Sp := fun vs H Q _ => ∃ (a l : Addr) (z : Sh) (s : Ship) (ps : List Nat), vs = [.ref a, .ref l] ∧ ShipAt C H a z s ∧ s.cabins.length ≤ 12 ∧ s.parties.length ≤ 8 ∧ LstN H l ps ∧ ps.length ≤ 8 ∧ (∀ p, p ∈ ps → p < s.parties.length) ∧ ps.Nodup ∧ Tab Pt H ∧
  ∀ H' : Hp, SameT Pt H H' → Tab Pt H' → Q (nV (s.housed ps s.frees)) H'
section
variable {P : Program} {w : World} {K : PySem.W.Frag} {mg : Str → Option Value} {base : Heap} {C : Cl}
theorem scWishOf : FnScope ["ship", "p", "cabins", "k"] ["ship", "p", "cabins"] (defScope sWishOf) := ⟨rfl, rfl, rfl, by decide +kernel, rfl, by decide +kernel, by decide +kernel⟩
theorem ok_wishOf {f g : Addr} {fd gd : FuncData} (F : Fun K "wish_of" "wish_of" sWishOf f fd) (T : Txt K C) (M : Mt P w K mg base C.S 1 "does" ["self", "p", "k"] (spDoes C) g gd) : FnOk P w K mg base CX0 2 f fd ["ship", "p", "cabins"] (spWishOf C) := by
  refine F.ok scWishOf (fun vs H Q E h => ?_) (fun cdv A outer s H vs Q E hr h => ?_)
  · obtain ⟨a, l, z, s, p, ks, rfl, _⟩ := h
    rfl
  obtain ⟨a, l, z, sh, p, ks, rfl, hS, hp, hL, h12, hlt, q⟩ := h
  refine ⟨_, pss_one (ps_ret (pe_lc (own := [("k", 3)]) rfl scWishOf.nd (pi_list (pv 2)) (blkOk_by rfl) (fun _ _ _ _ _ => pg_name (i := 3) scWishOf.nd rfl (Or.inl rfl))
    (fun _ _ _ _ _ => pts_one (pt_val (pe_meth (pv 0) T.cS M.mt M.ok hr M.b .nil pass0 (pa_cons (pv 1) (pa_cons (pv 3) pa_nil))))) (fun _ _ _ _ _ => pv 3))), ?_⟩
  refine ⟨_, rfl, l, rfl, ⟨_, SqL.of hL⟩, fun D hD => ?_⟩
  have s1 : Same H (upd H D (.lst [])) := same_new hD _
  refine lc_list (K := K) (a := l) (xs := ks.map nV) (fun i H' => Same H H' ∧ LstN H' D (wishL sh (ks.take i) p)) ⟨s1, upd_same⟩ (fun i H' _ h => SqL.of (h.1 _ _ hL)) ?_ ?_
  · rintro i y H' hi ⟨s2, hD2⟩
    obtain ⟨k, hk, rfl⟩ := map_nV hi
    refine ⟨rfl, _, rfl, a, z.dx, _, rfl, s2 _ _ hS.ship, ship_no (by decide) (by decide), _, rfl, _, rfl, a, z, sh, p, k, rfl, hS.same s2, hp, hlt k (List.mem_of_getElem? hk), _, rfl, ?_⟩
    have es : wishL sh (ks.take (i + 1)) p = wishL sh (ks.take i) p ++ if Km437.does (sh.cabin k) (sh.party p) = true then [k] else [] := filter_snoc _ hk
    cases e : Km437.does (sh.cabin k) (sh.party p) with
    | true =>
      rw [e, if_pos rfl] at es
      refine yes rfl ⟨_, rfl, _, hD2, ?_, fun b u e => by rw [upd_ne (ne_of_none e hD)]; exact s2 b u e, ?_⟩
      · rw [List.length_map]
        exact small1000 (Nat.le_trans (List.length_filter_le _ _) (by rw [List.length_take]; omega))
      · show upd H' D _ D = _
        rw [upd_same, es, List.map_append]
        rfl
    | false =>
      rw [e, if_neg Bool.false_ne_true, List.append_nil] at es
      exact no rfl ⟨s2, by rw [es]; exact hD2⟩
  · rintro H' ⟨s2, hD2⟩
    rw [List.length_map, List.take_length] at hD2
    exact q H' D hD s2 hD2
theorem frees_lt {s : Ship} {k : Nat} (h : k ∈ s.frees) : k < s.cabins.length := List.mem_range.mp (List.mem_filter.mp h).1
theorem waits_lt {s : Ship} {p : Nat} (h : p ∈ s.waits) : p < s.parties.length := List.mem_range.mp (List.mem_filter.mp h).1
theorem frees_inc (s : Ship) : s.frees.Pairwise (· < ·) := List.pairwise_lt_range.sublist List.filter_sublist
theorem frees_nd (s : Ship) : s.frees.Nodup := List.nodup_range.sublist List.filter_sublist
theorem waits_nd (s : Ship) : s.waits.Nodup := List.nodup_range.sublist List.filter_sublist
theorem frees_len (s : Ship) : s.frees.length ≤ s.cabins.length := lenN _
theorem waits_len (s : Ship) : s.waits.length ≤ s.parties.length := lenN _
theorem SameT.free {Pt : Addr} {H H' : Hp} {b : Addr} (hT : Tab Pt H') (e : SameT Pt H H') (h : H' b = none) : H b = none := by
  cases q : H b with
  | none => rfl
  | some o =>
    have n : b ≠ Pt := fun z => by
      obtain ⟨ps, hp, _⟩ := hT
      rw [z, hp] at h
      cases h
    rw [e b o n q] at h
    cases h
theorem fine_wish {s : Ship} {ps os : List Nat} (h12 : s.cabins.length ≤ 12) (h8 : ps.length ≤ 8) (ho : Ord s s.frees os) (hl : os.length ≤ 12) : Fine (ps.map (wishL s os)) := by
  refine ⟨by rw [List.length_map]; exact h8, fun w hw => ?_⟩
  obtain ⟨p, _, rfl⟩ := List.mem_map.mp hw
  refine ⟨Nat.le_trans (List.length_filter_le _ _) hl, fun c hc => ?_⟩
  have := frees_lt ((ho.mem c).mp (List.mem_filter.mp hc).1)
  omega
theorem scWW : FnScope ["ship", "parties", "cabins", "p"] ["ship", "parties"] (defScope sWW) := ⟨rfl, rfl, rfl, by decide +kernel, rfl, by decide +kernel, by decide +kernel⟩
theorem ok_ww {f fF fW gF Pt : Addr} {fd dF dW eF : FuncData} (F : Fun K "wishes_of" "wishes_of" sWW f fd) (T : Txt K C) (DF : Df P w K mg base 3 "frugal_order" ["ship", "cabins"] (spFrugal C Pt) fF dF) (DW : Df P w K mg base 2 "wish_of" ["ship", "p", "cabins"] (spWishOf C) fW dW)
    (MF : Mt P w K mg base C.S 4 "free_cabins" ["self"] (spFrees C) gF eF) : FnOk P w K mg base CX0 5 f fd ["ship", "parties"] (spWW C Pt) := by
  refine F.ok scWW (fun vs H Q E h => ?_) (fun cdv A outer s H vs Q E hr h => ?_)
  · obtain ⟨a, l, z, s, ps, rfl, _⟩ := h
    rfl
  obtain ⟨a, l, z, sh, ps, rfl, hS, h12, h8, hL, hp8, hlt, hT, q⟩ := h
  refine ⟨_, pss_cons (ps_set (i := 2) scWW.nd rfl (Or.inr rfl) (pe_call DF.ok (hr.mono (by decide)) rfl DF.m DF.kp DF.b .nil pass0 (pa_cons (pv 0) (pa_cons (pe_meth0 (pv 0) T.cS MF.mt MF.ok hr MF.b .nil pass0) pa_nil))))
    (pss_one (ps_ret (pe_lc (own := [("p", 3)]) rfl scWW.nd (pi_list (pv 1)) (blkOk_by rfl) (fun _ _ _ _ _ => pg_name (i := 3) scWW.nd rfl (Or.inl rfl))
      (fun _ _ _ _ _ => pts_nil) (fun _ _ _ _ _ => pe_call DW.ok (hr.mono (by decide)) rfl DW.m DW.kp DW.b .nil pass0 (pa_cons (pv 0) (pa_cons (pv 3) (pa_cons (pv 2) pa_nil))))))), ?_⟩
  refine ⟨_, rfl, _, rfl, a, z.dx, _, rfl, hS.ship, ship_no (by decide) (by decide), a, z, sh, rfl, hS, h12, h8, fun H1 r1 n1 s1 hr1 => ?_⟩
  have hT1 := hT.same s1
  refine ⟨a, r1, z, sh, sh.frees, rfl, hS.same s1, hr1, Nat.le_trans (frees_len sh) h12, frees_nd sh, fun k hk => frees_lt hk, hT1, fun H3 r2 os n2 s2 hT3 ho hol hr2 => ?_⟩
  have hS3 := (hS.same s1).sameT hT1 s2
  have hol12 : os.length ≤ 12 := by rw [hol]; exact Nat.le_trans (frees_len sh) h12
  have s123 : SameT Pt H H3 := (Same.t s1).trans s2
  have hL3 : LstN H3 l ps := s2 _ _ (hT1.ne (s1 _ _ hL) (by intro ps e; cases e)) (s1 _ _ hL)
  refine ⟨_, rfl, l, rfl, ⟨_, SqL.of hL3⟩, fun D hD => ?_⟩
  have nDH : H D = none := SameT.free hT3 s123 hD
  have sD : Same H3 (upd H3 D (.lst [])) := same_new hD _
  refine lc_list (K := K) (a := l) (xs := ps.map nV) (fun i H' => Same H3 H' ∧ ∃ bs : List Addr, H' D = some (.lst (bs.map V.ref)) ∧ bs.length = i ∧ (∀ b, b ∈ bs → b ≠ D ∧ H3 b = none) ∧ Items H' bs ((ps.take i).map (wishL sh os)))
    ⟨sD, [], upd_same, rfl, fun b hb => (by cases hb), rfl, fun i b w e => (by cases e)⟩ (fun i H' _ h => SqL.of (h.1 _ _ hL3)) ?_ ?_
  · rintro i y H' hi ⟨s4, bs, hD4, hbl, hnd, hB⟩
    obtain ⟨p, hp, rfl⟩ := map_nV hi
    have hi8 : i < 8 := by
      have h1 := (List.getElem?_eq_some_iff.mp hp).1
      omega
    refine ⟨rfl, ?_⟩
    unfold tYes
    refine yes rfl ?_
    refine ⟨_, rfl, _, rfl, _, rfl, a, r2, z, sh, p, os, rfl, hS3.same s4, hlt p (List.mem_of_getElem? hp), s4 _ _ hr2, hol12, fun k hk => frees_lt ((ho.mem k).mp hk), fun H5 r n5 s5 hr5 => ?_⟩
    have nrD : r ≠ D := Ne.symm (ne_of_none hD4 n5)
    refine ⟨_, s5 _ _ hD4, ?_, fun c u e => by rw [upd_ne (ne_of_none e hD)]; exact s5 _ _ (s4 c u e), bs ++ [r], ?_, by rw [List.length_append, hbl]; rfl, ?_, ?_⟩
    · rw [List.length_map, hbl]
      exact small1000 (by omega)
    · rw [upd_same, List.map_append]
      rfl
    · intro c hc
      rcases List.mem_append.mp hc with z | z
      · exact hnd c z
      · rw [List.mem_singleton.mp z]
        exact ⟨nrD, s4.free n5⟩
    · rw [take_snoc hp, List.map_append]
      have hB3 : Items (upd H5 D (.lst (bs.map V.ref ++ [V.ref r]))) bs ((ps.take i).map (wishL sh os)) := ⟨hB.1, fun j c v e1 e2 => by
        show upd H5 D _ c = _
        rw [upd_ne (hnd c (List.mem_of_getElem? e1)).1]
        exact s5 _ _ (hB.2 j c v e1 e2)⟩
      refine hB3.snoc ?_
      show upd H5 D _ r = _
      rw [upd_ne nrD]
      exact hr5
  · rintro H' ⟨s4, bs, hD4, hbl, hnd, hB⟩
    rw [List.length_map, List.take_length] at hB
    exact q H' D os nDH (s123.trans (Same.t s4)) (hT3.same s4) ho hol12 ⟨bs, hD4, hB, fun b hb => SameT.free hT3 s123 (hnd b hb).2⟩
theorem scMostOf : FnScope ["ship", "parties"] ["ship", "parties"] (defScope sMostOf) := ⟨rfl, rfl, rfl, by decide +kernel, rfl, by decide +kernel, by decide +kernel⟩
theorem ok_mostOf {f fM fW Pt : Addr} {fd dM dW : FuncData} (F : Fun K "most_of" "most_of" sMostOf f fd) (DM : Df P w K mg base 14 "most_housed" ["wishes"] spMost fM dM) (DW : Df P w K mg base 5 "wishes_of" ["ship", "parties"] (spWW C Pt) fW dW) : FnOk P w K mg base CX0 15 f fd ["ship", "parties"] (spMostOf C Pt) := by
  refine F.ok scMostOf (fun vs H Q E h => ?_) (fun cdv A outer s H vs Q E hr h => ?_)
  · obtain ⟨a, l, z, s, ps, rfl, _⟩ := h
    rfl
  obtain ⟨a, l, z, sh, ps, rfl, hS, h12, h8, hL, hp8, hlt, hnd, hT, q⟩ := h
  refine ⟨_, pss_one (ps_ret (pe_call DM.ok hr rfl DM.m DM.kp DM.b .nil pass0 (pa_cons (pe_call DW.ok (hr.mono (by decide)) rfl DW.m DW.kp DW.b .nil pass0 (pa_cons (pv 0) (pa_cons (pv 1) pa_nil))) pa_nil))), ?_⟩
  refine ⟨_, rfl, _, rfl, a, l, z, sh, ps, rfl, hS, h12, h8, hL, hp8, hlt, hT, fun H1 r1 os n1 s1 hT1 ho hol hr1 => ?_⟩
  refine ⟨r1, _, rfl, hr1.rows, fine_wish h12 hp8 ho hol, fun H2 s2 => ?_⟩
  rw [mostL_housed hnd (frees_nd sh) (Nat.le_trans (frees_len sh) h12) ho.mem]
  exact q H2 (s1.trans (Same.t s2)) (hT1.same s2)
end
end Cg

end
section
set_option Elab.async false
set_option linter.all false
set_option maxRecDepth 100000
set_option maxHeartbeats 4000000
namespace Cg
open PySem PySem.Spec PyProof.Rows L2
open Km437 (Cabin Party Ship)
/-- over two lists at once that the body leaves as they are -/
theorem for_zip {K : PySem.W.Frag} {a b : Addr} {xs ys : List V} {g : TG} {tb : TS} {D : Ends} {σ : L2.St} {H : Hp} (hxy : xs.length = ys.length) (Pv : Nat → L2.St → Hp → Prop) (h0 : Pv 0 σ H) (hl : ∀ i σ H, i ≤ xs.length → Pv i σ H → SqL K H a xs ∧ SqL K H b ys)
    (hs : ∀ i x y σ H T, xs[i]? = some x → ys[i]? = some y → H T = none → Pv i σ H → g (.ref T) σ (upd H T (.tup [x, y])) fun σ2 H2 => tb { D with nx := Pv (i + 1), ct := Pv (i + 1), bk := D.nx } σ2 H2) (hd : ∀ σ H, Pv xs.length σ H → D.nx σ H) :
    ∃ W : Nat → Nat → L2.St → Hp → Prop, (∃ m, W 0 m σ H) ∧ ∀ i m σ H, W i m σ H →
      ((Itz K a b).stop i H ∧ D.nx σ H) ∨ ((Itz K a b).go i H ∧ ∃ N : L2.St → Hp → Prop, (∀ σ' H', N σ' H' → ∃ m', m' < m ∧ W (i + 1) m' σ' H') ∧ ∀ x H', (Itz K a b).yld i H x H' → g x σ H' fun σ2 H2 => tb { D with nx := N, ct := N, bk := D.nx } σ2 H2) := by
  refine ⟨fun i m σ H => m = xs.length - i ∧ i ≤ xs.length ∧ Pv i σ H, ⟨xs.length, by simp, Nat.zero_le _, h0⟩, ?_⟩
  rintro i m σ H ⟨rfl, hi, p⟩
  obtain ⟨q1, q2⟩ := hl i σ H hi p
  by_cases hlt : i < xs.length
  · have hlt2 : i < ys.length := by omega
    refine .inr ⟨⟨xs, ys, xs[i], ys[i], q1, q2, by simp [hlt], by simp [hlt2]⟩, Pv (i + 1), fun σ' H' p' => ⟨xs.length - (i + 1), by omega, rfl, hlt, p'⟩, fun v H' y => ?_⟩
    obtain ⟨T, x, y, rfl, hT, rfl, e1, e2⟩ := y
    exact hs i x y σ H T (e1 xs q1) (e2 ys q2) hT p
  · have e : i = xs.length := by omega
    subst e
    exact .inl ⟨⟨xs, ys, q1, q2, .inl (Nat.le_refl _)⟩, hd σ H p⟩
theorem LamTab.but {Pt : Addr} {pos : Pos} {qual : Str} {H H' : Hp} {d : Addr} {o0 : HO} (h : LamTab Pt pos qual H) (hd : H d = some o0) (n1 : ∀ ps, o0 ≠ .tbl ps) (n2 : ∀ φ, o0 ≠ .ext φ) (k : ∀ b o, H b = some o → b ≠ d → H' b = some o) : LamTab Pt pos qual H' := by
  obtain ⟨ps, h1, h2⟩ := h
  refine ⟨ps, k _ _ h1 (ne_of h1 hd fun e => n1 ps e.symm), ?_⟩
  rcases h2 with h2 | ⟨c', h2, h3⟩
  · exact .inl h2
  · exact .inr ⟨c', h2, k _ _ h3 (ne_of h3 hd fun e => n2 _ e.symm)⟩
def kvN (x : Nat × Nat) : Key × V := (Sum.inl (x.1 : Int), nV x.2)
def spPlanOf (C : Cl) (Pt : Addr) : Sp := fun vs H Q _ => ∃ (a : Addr) (z : Sh) (s : Ship), vs = [.ref a] ∧ ShipAt C H a z s ∧ s.cabins.length ≤ 12 ∧ s.parties.length ≤ 8 ∧ Tab Pt H ∧
  ∀ (H' : Hp) (d : Addr), H d = none → SameT Pt H H' → Tab Pt H' → H' d = some (.dK ((s.plan s.waits s.frees).map kvN)) → Q (.ref d) H'
theorem plannedF_len : ∀ (n : Nat) (W : List (List Nat)), W.length ≤ n → (plannedF n W).length = W.length
  | 0, W, h => by
    cases W with
    | nil => rfl
    | cons w b => exact absurd h (by simp)
  | n + 1, [], _ => rfl
  | n + 1, w :: b, h => by
    show (plannedF n (leftL b (bestL w b))).length + 1 = b.length + 1
    rw [plannedF_len n _ (by rw [leftL_len]; rw [List.length_cons] at h; omega), leftL_len]
theorem gets_snoc : ∀ {ps : List Nat} {os : List (Option Nat)} {i p : Nat} {o : Option Nat}, ps[i]? = some p → os[i]? = some o →
    gets (ps.take (i + 1)) (os.take (i + 1)) = gets (ps.take i) (os.take i) ++ (match o with | some k => [(p, k)] | none => [])
  | [], _, _, _, _, h, _ => by simp at h
  | _ :: _, [], _, _, _, _, h => by simp at h
  | q :: ps, u :: os, 0, p, o, h1, h2 => by
    have h1 : q = p := Option.some.inj h1
    have h2 : u = o := Option.some.inj h2
    subst h1
    subst h2
    cases u <;> rfl
  | q :: ps, u :: os, i + 1, p, o, h1, h2 => by
    have ih := gets_snoc (ps := ps) (os := os) (i := i) (p := p) (o := o) h1 h2
    cases u with
    | none =>
      show gets (ps.take (i + 1)) (os.take (i + 1)) = gets (ps.take i) (os.take i) ++ _
      exact ih
    | some k =>
      show (q, k) :: gets (ps.take (i + 1)) (os.take (i + 1)) = (q, k) :: gets (ps.take i) (os.take i) ++ _
      rw [ih]
      rfl
theorem gets_sub : ∀ (ps : List Nat) (os : List (Option Nat)) (x : Nat × Nat), x ∈ gets ps os → x.1 ∈ ps
  | [], _, _, h => by cases h
  | _ :: _, [], _, h => by cases h
  | p :: ps, none :: os, x, h => List.mem_cons_of_mem _ (gets_sub ps os x h)
  | p :: ps, some k :: os, x, h => by
    have h : x ∈ (p, k) :: gets ps os := h
    rcases List.mem_cons.mp h with e | e
    · rw [e]
      exact List.mem_cons_self
    · exact List.mem_cons_of_mem _ (gets_sub ps os x e)
theorem gets_len : ∀ (ps : List Nat) (os : List (Option Nat)), (gets ps os).length ≤ ps.length
  | [], _ => Nat.le_refl _
  | _ :: _, [] => Nat.zero_le _
  | p :: ps, none :: os => Nat.le_succ_of_le (gets_len ps os)
  | p :: ps, some k :: os => Nat.succ_le_succ (gets_len ps os)
theorem valV_none {l : List (Nat × Nat)} {p : Nat} (h : ∀ x, x ∈ l → x.1 ≠ p) : valV (l.map kvN) (Sum.inl (p : Int) : Key) = none := by
  induction l with
  | nil => rfl
  | cons x l ih =>
    rw [List.map_cons, valV_neg (fun e => h x List.mem_cons_self (inl_inj.mp e))]
    exact ih fun y hy => h y (List.mem_cons_of_mem _ hy)
section
variable {P : Program} {w : World} {K : PySem.W.Frag} {mg : Str → Option Value} {base : Heap} {C : Cl}
theorem scPlanOf : FnScope ["ship", "waiting", "plan", "p", "cabin"] ["ship"] (defScope sPlanOf) := ⟨rfl, rfl, rfl, by decide +kernel, rfl, by decide +kernel, by decide +kernel⟩
theorem ok_planOf {f fP fW gW Pt : Addr} {fd dP dW eW : FuncData} (F : Fun K "plan_of" "plan_of" sPlanOf f fd) (T : Txt K C) (DP : Df P w K mg base 16 "planned_cabins" ["wishes"] spPlanned fP dP) (DW : Df P w K mg base 5 "wishes_of" ["ship", "parties"] (spWW C Pt) fW dW)
    (MW : Mt P w K mg base C.S 4 "waiting_parties" ["self"] (spWaiting C) gW eW) (mz : mg "zip" = none) : FnOk P w K mg base CX0 17 f fd ["ship"] (spPlanOf C Pt) := by
  refine F.ok scPlanOf (fun vs H Q E h => ?_) (fun cdv A outer s H vs Q E hr h => ?_)
  · obtain ⟨a, z, s, rfl, _⟩ := h
    rfl
  obtain ⟨a, z, sh, rfl, hS, h12, h8, hT, q⟩ := h
  have hu := hu_of hr
  refine ⟨_, pss_cons (ps_set (i := 1) scPlanOf.nd rfl (Or.inl rfl) (pe_meth0 (pv 0) T.cS MW.mt MW.ok (hr.mono (by decide)) MW.b .nil pass0)) (pss_cons (ps_set (i := 2) scPlanOf.nd rfl (Or.inl rfl) pe_dnewK)
    (pss_cons (ps_for PassesOwn.never rfl (pi_zip rfl mz (pa_cons (pv 1) (pa_cons (pe_call DP.ok hr rfl DP.m DP.kp DP.b .nil pass0 (pa_cons (pe_call DW.ok (hr.mono (by decide)) rfl DW.m DW.kp DW.b .nil pass0 (pa_cons (pv 0) (pa_cons (pv 1) pa_nil))) pa_nil)) pa_nil)))
        (pg_tup rfl (pgs_cons (pg_name (i := 3) scPlanOf.nd rfl (Or.inl rfl)) (pgs_cons (pg_name (i := 4) scPlanOf.nd rfl (Or.inl rfl)) pgs_nil)))
      (pss_one (ps_if (pt_cmp (pc_notN (pv 4))) (pss_one (ps_dput hu (pv 2) (pv 3) (pv 4) rfl)) pss_nil)))
    (pss_one (ps_ret (pv 2))))), ?_⟩
  refine ⟨_, rfl, a, z.dx, _, rfl, hS.ship, ship_no (by decide) (by decide), a, z, sh, rfl, hS, h8, fun H1 r2 n2 s1 hr1 => ?_⟩
  intro d hd1
  have hd : H d = none := s1.free hd1
  have s2 : Same H1 (upd H1 d (.dK [])) := same_new hd1 _
  have s12 := s1.trans s2
  have hr2 : LstN (upd H1 d (.dK [])) r2 sh.waits := s2 _ _ hr1
  refine ⟨_, rfl, _, rfl, _, rfl, a, r2, z, sh, sh.waits, rfl, hS.same s12, h12, h8, hr2, Nat.le_trans (waits_len sh) h8, fun p hp => waits_lt hp, hT.same s12, fun H3 r3 os n3 s3 hT3 ho hol hr3 => ?_⟩
  have fine := fine_wish (ps := sh.waits) h12 (Nat.le_trans (waits_len sh) h8) ho hol
  refine ⟨r3, _, rfl, hr3.rows, fine, fun H4 r4 n4 s4 hr4 => ?_⟩
  have s123 : SameT Pt H H3 := (Same.t s12).trans s3
  have hdP : d ≠ Pt := fun e => by
    obtain ⟨ps, hp, _⟩ := hT
    rw [← e, hd] at hp
    cases hp
  have hd4 : H4 d = some (.dK []) := s4 _ _ (s3 _ _ hdP upd_same)
  have hr24 : LstN H4 r2 sh.waits := s4 _ _ (s3 _ _ ((hT.same s12).ne hr2 (by intro ps e; cases e)) hr2)
  have hpl : (plannedF (sh.waits.map (wishL sh os)).length (sh.waits.map (wishL sh os))).length = sh.waits.length := by
    rw [plannedF_len _ _ (Nat.le_refl _), List.length_map]
  have eplan : sh.plan sh.waits sh.frees = gets sh.waits (plannedF (sh.waits.map (wishL sh os)).length (sh.waits.map (wishL sh os))) :=
    plan_gets sh.waits sh.frees os _ (by rw [List.length_map]; exact Nat.le_refl _) (waits_nd sh) (frees_inc sh) (Nat.le_trans (frees_len sh) h12) ho
  generalize plannedF (sh.waits.map (wishL sh os)).length (sh.waits.map (wishL sh os)) = pl at hr4 hpl eplan
  refine ⟨r2, r4, sh.waits.map nV, pl.map vO, rfl, SqL.of hr24, SqL.of hr4, for_zip (K := K) (a := r2) (b := r4) (xs := sh.waits.map nV) (ys := pl.map vO) (by rw [List.length_map, List.length_map, hpl])
    (fun i σ H' => ∃ v2 v3 : Option V, σ = [some (.ref a), some (.ref r2), some (.ref d), v2, v3] ∧ H' d = some (.dK ((gets (sh.waits.take i) (pl.take i)).map kvN)) ∧ ∀ b o, H4 b = some o → b ≠ d → H' b = some o)
    ⟨none, none, rfl, by rw [hd4]; rfl, fun b o e _ => e⟩ (fun i σ H' _ ⟨_, _, _, _, k⟩ => ⟨SqL.of (k _ _ hr24 (ne_of hr24 hd4 (by intro e; cases e))), SqL.of (k _ _ hr4 (ne_of hr4 hd4 (by intro e; cases e)))⟩) ?_ ?_⟩
  · rintro i x y σ H' T hx hy nT ⟨v2, v3, rfl, hd', k⟩
    obtain ⟨p, hp, rfl⟩ := map_nV hx
    obtain ⟨o, hov, rfl⟩ : ∃ o, pl[i]? = some o ∧ y = vO o := by
      rw [List.getElem?_map] at hy
      cases e : pl[i]? with
      | none =>
        rw [e] at hy
        cases hy
      | some o =>
        rw [e] at hy
        exact ⟨o, rfl, (Option.some.inj hy).symm⟩
    have es := gets_snoc hp hov
    have ndT : d ≠ T := ne_of_none hd' nT
    have hdT : (upd H' T (.tup [nV p, vO o])) d = some (.dK ((gets (sh.waits.take i) (pl.take i)).map kvN)) := by rw [upd_ne ndT]; exact hd'
    have k2 : ∀ b o', H4 b = some o' → b ≠ d → (upd H' T (.tup [nV p, vO o])) b = some o' := fun b o' e n => by
      rw [upd_ne (ne_of_none (k b o' e n) nT)]
      exact k b o' e n
    refine ⟨T, _, rfl, SqT.of upd_same, rfl, _, _, rfl, _, _, rfl, rfl, _, rfl, _, rfl, ?_⟩
    cases o with
    | none =>
      refine no rfl ⟨_, _, rfl, ?_, k2⟩
      rw [es, List.append_nil]
      exact hdT
    | some c =>
      refine yes rfl ⟨_, rfl, _, rfl, _, rfl, d, _, rfl, DPut.k (k := Sum.inl (p : Int)) hdT ?_, _, _, rfl, ?_, fun b o' e n => by rw [upd_ne n]; exact k2 b o' e n⟩
      · rw [List.length_map]
        refine small1000 (Nat.le_trans (gets_len _ _) ?_)
        rw [List.length_take]
        have := waits_len sh
        omega
      · rw [upd_same, es, List.map_append, putK_new _ (valV_none fun x hx e => ?_)]
        · rfl
        · have hm := gets_sub _ _ x hx
          rw [e] at hm
          obtain ⟨j, hj, ej⟩ := List.getElem_of_mem hm
          rw [List.getElem_take] at ej
          rw [List.length_take] at hj
          have := nd_ix (waits_nd sh) (i := j) (j := i) (x := p) (by rw [List.getElem?_eq_getElem (by omega), ej]) hp
          omega
  · rintro σ H' ⟨v2, v3, rfl, hd', k⟩
    rw [List.length_map, List.take_length] at hd'
    rw [show pl.take sh.waits.length = pl by rw [← hpl]; exact List.take_length, ← eplan] at hd'
    refine ⟨_, rfl, q H' d hd (fun b o n e => ?_) ?_ hd'⟩
    · exact k b o (s4 _ _ (s123 b o n e)) (ne_of_none e hd)
    · exact (hT3.same s4).but hd4 (by intro ps e; cases e) (by intro φ e; cases e) k
end
end Cg

end
section
set_option Elab.async false
set_option linter.all false
set_option maxRecDepth 100000
set_option maxHeartbeats 4000000
namespace Cg
open PySem PySem.Spec PyProof.Rows L2
open PySem.W (Codec WData OpenSpec tabObj WellAll)
/-! ## The head: the call of the row's def, a def's code table among what may grow -/
mutual
theorem dw_same {K : PySem.W.Frag} {H H' : Hp} (e : Same H H') : ∀ {v : V} {d : WData}, Dw K H v d → Dw K H' v d
  | _, _, .non => .non
  | _, _, .bl b => .bl b
  | _, _, .int i => .int i
  | _, _, .str x => .str x
  | _, _, .byt b => .byt b
  | _, _, .lst h1 h2 => .lst (e.seq h1) (dwAll_same e h2)
  | _, _, .tup h1 h2 => .tup (by
      rcases h1 with (h | ⟨o, h⟩) | h
      · exact .inl (.inl (e _ _ h))
      · exact .inl (.inr ⟨o, e _ _ h⟩)
      · exact .inr h) (dwAll_same e h2)
theorem dwAll_same {K : PySem.W.Frag} {H H' : Hp} (e : Same H H') : ∀ {vs : List V} {ds : List WData}, DwAll K H vs ds → DwAll K H' vs ds
  | _, _, .nil => .nil
  | _, _, .cons h1 h2 => .cons (dw_same e h1) (dwAll_same e h2)
end
theorem spec_callT {P : Program} {w : World} {K : PySem.W.Frag} {mg mb : Str → Option Value} {CX : CXT} {k : Nat} {fa Pt : Addr} {fd : FuncData} {ps : List Str} {sp : Sp} {s₁ : Shared} {vals : List Value} {ds : List WData} {R : PySem.W.WRecords} {cl : Str → Option Addr} {d0 : WData}
    (KX : K.In s₁.heap) (hns : s₁.heap.Ns mainGlobals mg) (hb : s₁.heap.Ns builtinsNs mb) (hbb : ∀ x : Str, x ≠ "__name__" → mb x = bootBuiltins x) (hlim : s₁.heap.NoLimit) (hg : s₁.gens = #[]) (hbm : Bm s₁.heap mg)
    (hPt : s₁.heap.get? Pt = some (tabObj #[])) (hct : isCodeTable s₁.heap Pt) (hKP : K.lookup Pt = none)
    (hwl : WellAll w.params s₁.heap vals ds) (hpl : plWs ds = true) (hwt : ∀ d ∈ ds, d.weight ≤ 1048576) (hr : Room k callerA)
    (F : ∀ base : Heap, K.In base → base.Ns mainGlobals mg → Bm base mg → FnOk P w K mg base CX k fa fd ps sp) (hbind : ∀ (s : Shared) (us : List Value), us.length = ps.length → BindsTo s fd ⟨us, []⟩ (ps.zip us)) (hlen : ds.length = ps.length)
    (hsp : ∀ (H : Hp) (xs : List V), H Pt = some (.tbl #[]) → DwAll K H xs ds → sp xs H (fun v H' => Dw K H' v d0) fun _ _ _ => False)
    (hCX : ∀ H e s', CX [] H s₁ (fun _ _ _ => False) e s' → False) :
    codeAny (model P w) callerA (.call (.ref fa) ⟨vals, []⟩) (fun r s' => ∃ u as, r = .ok (.ret u) ∧ PySem.W.ReadsW R cl s'.heap u d0 as ∧ OldK s₁.heap s'.heap ∧ s'.os = s₁.os ∧ AllBare s'.gens) s₁ := by
  obtain ⟨A, ho, ar⟩ := area_all ds vals hwl hpl hwt
  have hO : OnlyF (argH K s₁.heap A) := argH_only ar
  have hok0 : HOk P w (argH K s₁.heap A) s₁.heap := argH_ok ar
  have hS0 := dw_all KX ar ds vals hwl hpl ho
  have hV := vals_toV ho
  have hK : ∀ b u, argH K s₁.heap A b = some u → K.lookup b = none := fun b u q => (argH_is ar q).1
  have isSeq : ∀ {b : Addr} {u : HO}, argH K s₁.heap A b = some u → ∃ o vs n, s₁.heap.get? b = some o ∧ o.data = .seq vs n := fun {b u} q => by
    obtain ⟨_, vs, _, _, ⟨e2, _⟩ | ⟨e2, _⟩⟩ := argH_is ar q
    · exact ⟨_, _, _, e2, rfl⟩
    · exact ⟨_, _, _, e2, rfl⟩
  generalize argH K s₁.heap A = H0 at hO hok0 hS0 hK isSeq
  have hP0 : H0 Pt = none := by
    cases q : H0 Pt with
    | none => rfl
    | some u =>
      obtain ⟨o, vs, n, e, d⟩ := isSeq q
      rw [hPt] at e
      have e := Option.some.inj e
      rw [← e] at d
      cases d
  have sm : Same H0 (upd H0 Pt (.tbl #[])) := same_new hP0 _
  have hok : HOk P w (upd H0 Pt (.tbl #[])) s₁.heap := fun b u e => by
    by_cases hbP : b = Pt
    · subst hbP
      rw [upd_same] at e
      have e := Option.some.inj e
      subst e
      exact hPt
    · rw [upd_ne hbP] at e
      exact (hok0 b u e).stay (fun _ _ _ q => q) (fun c q => sm _ _ q) fun c xs q => sm _ _ q
  have hS := dwAll_same sm hS0
  have noD : ∀ {b : Addr} {o : Obj}, s₁.heap.get? b = some o → (∀ vs n, o.data ≠ .seq vs n) → (∀ vs, o.data ≠ .fields vs) → (upd H0 Pt (.tbl #[])) b = none := fun {b o} e d1 d2 => by
    have nb : b ≠ Pt := fun z => by
      rw [z, hPt] at e
      have e := Option.some.inj e
      exact d2 #[] (by rw [← e])
    rw [upd_ne nb]
    cases q : H0 b with
    | none => rfl
    | some u =>
      obtain ⟨o', vs, n, e', d⟩ := isSeq q
      rw [e] at e'
      have e' := Option.some.inj e'
      subst e'
      exact absurd d (d1 vs n)
  generalize hH : upd H0 Pt (.tbl #[]) = H at sm hok hS noD
  have hHP : H Pt = some (.tbl #[]) := by rw [← hH, upd_same]
  have hHb : ∀ b, b ≠ Pt → H b = H0 b := fun b n => by rw [← hH, upd_ne n]
  have base_of : ∀ {b : Addr} {o : Obj}, s₁.heap.get? b = some o → H b = none → (hidT s₁.heap H).get? b = some o := fun e n => hidT_get e n
  have nsK : ∀ {b : Addr} {m : Str → Option Value}, s₁.heap.Ns b m → (hidT s₁.heap H).Ns b m := fun {b m} ⟨o, es, ep, e, d, r⟩ => ⟨o, es, ep, base_of e (noD e (fun vs n z => by rw [z] at d; cases d) (fun vs z => by rw [z] at d; cases d)), d, r⟩
  have nK : ∀ b o, K.lookup b = some o → H b = none := fun b o e => by
    have nb : b ≠ Pt := fun z => by
      rw [z, hKP] at e
      cases e
    rw [hHb b nb]
    cases q : H0 b with
    | none => rfl
    | some u =>
      rw [hK b u q] at e
      cases e
  have hKb : K.In (hidT s₁.heap H) := fun b o e => base_of (KX b o e) (nK b o e)
  have hM : Mod K mg (hidT s₁.heap H) := ⟨hKb, nsK hns, ⟨mb, nsK hb, hbb⟩, let ⟨mc, h1, h2⟩ := hlim; ⟨mc, nsK h1, h2⟩⟩
  have hBm : Bm (hidT s₁.heap H) mg := by
    obtain ⟨bm, o, b1, b2, b3, b4, b5, b6⟩ := hbm
    exact ⟨bm, o, b1, b2, base_of b3 (noD b3 (fun vs n z => by rw [z] at b6; cases b6) (fun vs z => by rw [z] at b6; cases b6)), b4, b5, b6⟩
  have e0 : Env0 P w K mg (hidT s₁.heap H) callerA [] s₁ H := ⟨rfl, hM, fun b o e => of_hidT e, Nat.le_of_eq (hidT_size _ _), trivial, fun b hb => absurd (show b ∈ ([] : List Addr) from hb) (by simp), hok, .of_eq hg⟩
  have hl : vals.length = ps.length := by rw [wellAll_len hwl]; exact hlen
  refine codeAny_mono ((F _ hKb (nsK hns) hBm).run callerA [] s₁ H ⟨vals, []⟩ vals (vals.map toV) _ _ hr e0 (hbind s₁ vals hl) hV (hsp H _ hHP hS)) fun r s' x => ?_
  cases r with
  | error e => exact (hCX H e s' x).elim
  | ok fl =>
    cases fl with
    | next => exact False.elim x
    | brk => exact False.elim x
    | cont => exact False.elim x
    | ret u =>
      obtain ⟨v, H', os, bare, un, hok', r', q⟩ := x
      have kept : ∀ b o, b ≠ Pt → s₁.heap.get? b = some o → s'.heap.get? b = some o := fun b o nb e => by
        cases q2 : H b with
        | none => exact un.keep b o e q2 (by intro z; exact absurd (show b ∈ ([] : List Addr) from z) (by simp)) (by simp)
        | some u2 =>
          rcases hO b with z | ⟨ob, u3, z⟩
          · rw [← hHb b nb, q2] at z
            cases z
          · have z1 : H b = some (.frz ob u3) := by rw [hHb b nb]; exact z
            have z2 := un.frzs b ob _ z1
            obtain ⟨e1, _⟩ := hok b _ z1
            obtain ⟨e2, _⟩ := hok' b _ z2
            rw [e] at e1
            cases e1
            exact e2
      obtain ⟨more, hm⟩ := un.tbls Pt #[] hHP
      have hm2 : s'.heap.get? Pt = some (tabObj (#[] ++ more)) := hok' Pt _ hm
      have KX' : K.In s'.heap := fun b o e => kept b o (fun z => by rw [z, hKP] at e; cases e) (KX b o e)
      obtain ⟨as, hrd⟩ := Dw.reads (R := R) (cl := cl) hok' KX' d0 v u q r'
      refine ⟨u, as, rfl, hrd, ⟨fun b o e => ?_, fun b o e => ?_⟩, os, bare⟩
      · by_cases hbP : b = Pt
        · subst hbP
          rw [hPt] at e
          have e := Option.some.inj e
          subst e
          exact .inr (.inl ⟨hct, rfl, #[], more, rfl, hm2⟩)
        · exact .inl (kept b o hbP e)
      · by_cases hbP : b = Pt
        · exact ⟨_, by rw [hbP]; exact hm2⟩
        · exact ⟨o, kept b o hbP e⟩
theorem walk_specT {r : OpenSpec} {k : Nat} {q : Program} {loose : List Str} {XP : (Str → Option Value) → Heap → Prop} {YP : World → Heap → Prop} {d : DefRec} {K : Params → PySem.W.Frag} {CX : CXT} {ps : List Str} {sp : PySem.W.Frag → Addr → Sp}
    (hwell : r.wellSaid = true) (hdf : d.params.defaults = []) (hlen : r.args.length = ps.length) (hr : Room k callerA)
    (hY : ∀ (w : World) (h : Heap), YP w h → (K w.params).In h)
    (F : ∀ (w : World) (mg : Str → Option Value) (fa : Addr) (h : Heap), YP w h → (K w.params).In h → h.Ns mainGlobals mg → (∀ e ∈ recsOf q, ∃ a o fd c P, mg e.name = some (.ref a) ∧ h.get? a = some o ∧ o.data = .func fd ∧ fd.code = .ref c ∧ h.IsCode c P #[] ∧ h.TableAt c P #[]) → mg d.name = some (.ref fa) →
      ∃ (fd : FuncData) (Pt : Addr), h.get? Pt = some (tabObj #[]) ∧ isCodeTable h Pt ∧ (K w.params).lookup Pt = none ∧ (∀ (s : Shared) (us : List Value), us.length = ps.length → BindsTo s fd ⟨us, []⟩ (ps.zip us)) ∧
        ∀ base : Heap, (K w.params).In base → base.Ns mainGlobals mg → Bm base mg → FnOk r.prog w (K w.params) mg base CX k fa fd ps (sp (K w.params) Pt))
    (hsp : ∀ (K : PySem.W.Frag) (Pt : Addr) (H : Hp) (xs : List V) (a : Codec.denoteAll r.args), H Pt = some (.tbl #[]) → Codec.withinAll r.args a = true → Codec.app r.args r.asked a = true → DwAll K H xs (Codec.encAll r.args a) →
      sp K Pt xs H (fun v H' => Dw K H' v (r.ret.enc (Codec.app r.args r.f a))) fun _ _ _ => False)
    (hCX : ∀ (H : Hp) (s : Shared) (e : Value) (s' : Shared), CX [] H s (fun _ _ _ => False) e s' → False) :
    PySem.W.WalkOS q loose XP YP r d [] (fun f vs => PySem.call f vs) := by
  intro w s_0 s₁ mg mb G Y fa o pm cd doc dV kV ho hd hcd hD hmg hg args vals as hpre hlay hrd hwl hlo
  obtain ⟨a, e1, e2⟩ := PySem.W.os_pre_some hpre
  obtain ⟨e3, hwi⟩ := Codec.encAll_of_decAll r.args args a e1
  subst e3
  have KX := hY w _ Y
  obtain ⟨fd, Pt, hPt, hct, hKP, hb, hF⟩ := F w mg fa _ Y KX G.T.g G.T.tab hmg
  refine PySem.W.enter_call (codeAny_mono (spec_callT (R := []) (cl := classAt s_0.heap) (d0 := r.ret.enc (Codec.app r.args r.f a)) KX G.T.g G.T.b G.T.builtins G.T.nolimit hg G.T.bmain hPt hct hKP hwl (pl_encAll _ _) (layable_weight hlay) hr hF hb (by rw [encAll_len]; exact hlen)
    (fun H xs hO hS => hsp (K w.params) Pt H xs a hO hwi e2 hS) fun H e s' => hCX H s₁ e s') fun r' s' hq => ?_)
  obtain ⟨u, as', rfl, h1, h2, h3, h4⟩ := hq
  exact ⟨.inl ⟨u, _, as', rfl, fun _ => rfl, h1, (OpenSpec.post_iff hwell hwi _ _).mpr rfl, fun z => Bool.noConfusion (show false = true from z)⟩, h2, h3, h4⟩
end Cg

end
section
set_option Elab.async false
set_option linter.all false
set_option maxRecDepth 100000
set_option maxHeartbeats 4000000
namespace Cg
open Km437 (Desk Call Ans act)
open Km437Neutral (callOf asked1 may step)
/-! ## The line of calls, one by one -/
/-- how many numbers a call is handed -/
def width : Nat → Nat
  | 1 => 5
  | 2 => 3
  | 3 => 2
  | 4 => 1
  | 5 => 2
  | 6 => 2
  | 7 => 2
  | 9 => 2
  | 10 => 2
  | 13 => 1
  | 14 => 1
  | 15 => 1
  | 16 => 1
  | 17 => 1
  | 18 => 1
  | _ => 0
theorem shape_nat : ∀ j : Fin 25, PyKm437.shape ((j.1 : Nat) : Int) = some (width j.1, 0) := by decide
theorem shape_some {p : Int} {n m : Nat} (h : PyKm437.shape p = some (n, m)) : ∃ j : Nat, j < 25 ∧ p = (j : Int) ∧ n = width j ∧ m = 0 := by
  by_cases hp : 0 ≤ p ∧ p < 25
  · have ej : p = ((p.toNat : Nat) : Int) := by omega
    have hj : p.toNat < 25 := by omega
    have e := shape_nat ⟨p.toNat, hj⟩
    dsimp only at e
    rw [← ej, h] at e
    have e := Option.some.inj e
    exact ⟨p.toNat, hj, ej, congrArg Prod.fst e, congrArg Prod.snd e⟩
  · unfold PyKm437.shape at h
    repeat rw [if_neg (by omega)] at h
    cases h
theorem calls_cons {f : Nat} {p : Int} {r : List Int} {cs : List (List (List Int))} (h : PyFlat.calls PyKm437.shape f (p :: r) = some cs) :
    ∃ (j f' : Nat) (cs' : List (List (List Int))), j < 25 ∧ p = (j : Int) ∧ width j ≤ r.length ∧ cs = [p :: r.take (width j)] :: cs' ∧ PyFlat.calls PyKm437.shape f' (r.drop (width j)) = some cs' := by
  cases f with
  | zero => cases h
  | succ f =>
    unfold PyFlat.calls PyFlat.call at h
    dsimp only at h
    cases e : PyKm437.shape p with
    | none =>
      rw [e] at h
      cases h
    | some nm =>
      obtain ⟨n, m⟩ := nm
      rw [e] at h
      obtain ⟨j, hj, ep, en, em⟩ := shape_some e
      subst en
      subst em
      dsimp only at h
      by_cases hl : r.length < width j
      · rw [if_pos hl] at h
        cases h
      · rw [if_neg hl] at h
        unfold PyFlat.rows at h
        dsimp only at h
        cases e2 : PyFlat.calls PyKm437.shape f (r.drop (width j)) with
        | none =>
          rw [e2] at h
          cases h
        | some cs' =>
          rw [e2] at h
          exact ⟨j, f, cs', hj, ep, by omega, (Option.some.inj h).symm, e2⟩
theorem al1 {as : List Int} (h : as.length = 1) : ∃ a, as = [a] := by
  match as, h with
  | [a], _ => exact ⟨a, rfl⟩
theorem al2 {as : List Int} (h : as.length = 2) : ∃ a b, as = [a, b] := by
  match as, h with
  | [a, b], _ => exact ⟨a, b, rfl⟩
theorem al3 {as : List Int} (h : as.length = 3) : ∃ a b c, as = [a, b, c] := by
  match as, h with
  | [a, b, c], _ => exact ⟨a, b, c, rfl⟩
theorem al5 {as : List Int} (h : as.length = 5) : ∃ a b c d e, as = [a, b, c, d, e] := by
  match as, h with
  | [a, b, c, d, e], _ => exact ⟨a, b, c, d, e, rfl⟩
theorem by25 {P : Nat → Prop} (h0 : P 0) (h1 : P 1) (h2 : P 2) (h3 : P 3) (h4 : P 4) (h5 : P 5) (h6 : P 6) (h7 : P 7) (h8 : P 8) (h9 : P 9) (h10 : P 10) (h11 : P 11) (h12 : P 12) (h13 : P 13) (h14 : P 14) (h15 : P 15) (h16 : P 16) (h17 : P 17) (h18 : P 18) (h19 : P 19) (h20 : P 20) (h21 : P 21) (h22 : P 22) (h23 : P 23) (h24 : P 24) {j : Nat} (hj : j < 25) : P j := by
  have : ∀ l : List Nat, (∀ x, x ∈ l → P x) → j ∈ l → P j := fun l h m => h j m
  refine this (List.range 25) (fun x hx => ?_) (List.mem_range.mpr hj)
  have e : List.range 25 = [0, 1, 2, 3, 4, 5, 6, 7, 8, 9, 10, 11, 12, 13, 14, 15, 16, 17, 18, 19, 20, 21, 22, 23, 24] := rfl
  rw [e] at hx
  repeat (rcases List.mem_cons.mp hx with rfl | hx; · assumption)
  cases hx
theorem call_is {j : Nat} (hj : j < 25) : ∀ {as : List Int}, as.length = width j → (∃ x, callOf [(j : Int) :: as] = some x) ∧ PyKm437.whole [(j : Int) :: as] = [(j : Int) :: as] := by
  refine by25 (P := fun j => ∀ {as : List Int}, as.length = width j → (∃ x, callOf [(j : Int) :: as] = some x) ∧ PyKm437.whole [(j : Int) :: as] = [(j : Int) :: as]) ?_ ?_ ?_ ?_ ?_ ?_ ?_ ?_ ?_ ?_ ?_ ?_ ?_ ?_ ?_ ?_ ?_ ?_ ?_ ?_ ?_ ?_ ?_ ?_ ?_ hj
  all_goals (intro as hn; first
    | (obtain rfl := List.length_eq_zero_iff.mp hn; exact ⟨⟨_, rfl⟩, rfl⟩)
    | (obtain ⟨a1, rfl⟩ := al1 hn; exact ⟨⟨_, rfl⟩, rfl⟩)
    | (obtain ⟨a1, a2, rfl⟩ := al2 hn; exact ⟨⟨_, rfl⟩, rfl⟩)
    | (obtain ⟨a1, a2, a3, rfl⟩ := al3 hn; exact ⟨⟨_, rfl⟩, rfl⟩)
    | (obtain ⟨a1, a2, a3, a4, a5, rfl⟩ := al5 hn; exact ⟨⟨_, rfl⟩, rfl⟩))
theorem whole_calls : ∀ (n f : Nat) (l : List Int) (cs : List (List (List Int))), l.length ≤ n → PyFlat.calls PyKm437.shape f l = some cs → cs.map PyKm437.whole = cs
  | _, f, [], cs, _, h => by
    have e : cs = [] := by cases f <;> exact (Option.some.inj h).symm
    rw [e]
    rfl
  | 0, _, _ :: _, _, hl, _ => absurd hl (by simp)
  | n + 1, f, p :: r, cs, hl, h => by
    obtain ⟨j, f', cs', hj, ep, hw, ec, h'⟩ := calls_cons h
    subst ec
    rw [List.map_cons, whole_calls n f' (r.drop (width j)) cs' (by rw [List.length_drop]; rw [List.length_cons] at hl; omega) h', ep, (call_is hj (as := r.take (width j)) (by rw [List.length_take]; omega)).2]
theorem start_of {x : Call} (h : Km437Neutral.isStart x = true) : x = .start := by
  cases x <;> first | rfl | cases h
theorem step_eq {S : Option Desk} {d : Desk} {c : List (List Int)} {x : Call} (hS : S = some d ∨ S = none) (hx : callOf c = some x) (hm : (step S c).2.isEmpty = false) :
    step S c = (some (act d x).1, Km437Neutral.told (act d x).2) := by
  rcases hS with rfl | rfl
  · unfold step
    rw [hx]
  · unfold step at hm ⊢
    rw [hx] at hm ⊢
    dsimp only at hm ⊢
    cases e : Km437Neutral.isStart x with
    | false =>
      rw [e] at hm
      cases hm
    | true =>
      have := start_of e
      subst this
      rfl
/-- what is still to come of a line: the calls that are read of it, each may come -/
structure Rem (S : Option Desk) (l : List Int) (cs : List (List (List Int))) : Prop where
  read : ∃ f, PyFlat.calls PyKm437.shape f l = some cs
  asked : cs.all asked1 = true
  may : Km437Neutral.may S cs = true
def outOf (S : Option Desk) (cs : List (List (List Int))) : List Int := PyFlat.told (PyFlat.played step S cs)
theorem Rem.next {S : Option Desk} {d : Desk} {p : Int} {r : List Int} {cs : List (List (List Int))} (h : Rem S (p :: r) cs) (hS : S = some d ∨ S = none) :
    ∃ (j : Nat) (cs' : List (List (List Int))) (x : Call), j < 25 ∧ p = (j : Int) ∧ width j ≤ r.length ∧ callOf [p :: r.take (width j)] = some x ∧ cs.length = cs'.length + 1 ∧ Rem (some (act d x).1) (r.drop (width j)) cs' ∧
      outOf S cs = ((Km437Neutral.told (act d x).2).length : Int) :: (Km437Neutral.told (act d x).2 ++ outOf (some (act d x).1) cs') := by
  obtain ⟨f, hf⟩ := h.read
  obtain ⟨j, f', cs', hj, ep, hl, ec, hf'⟩ := calls_cons hf
  subst ec
  have ha := h.asked
  rw [List.all_cons, Bool.and_eq_true] at ha
  have hm := h.may
  unfold Km437Neutral.may at hm
  rw [Bool.and_eq_true, Bool.not_eq_true'] at hm
  obtain ⟨x, hx⟩ := (call_is hj (as := r.take (width j)) (by rw [List.length_take]; omega)).1
  rw [← ep] at hx
  have es := step_eq (d := d) hS hx hm.1
  refine ⟨j, cs', x, hj, ep, hl, hx, rfl, ⟨⟨f', hf'⟩, ha.2, ?_⟩, ?_⟩
  · rw [es] at hm
    exact hm.2
  · have e : PyFlat.played step S ([p :: r.take (width j)] :: cs') = (step S [p :: r.take (width j)]).2 :: PyFlat.played step (step S [p :: r.take (width j)]).1 cs' := rfl
    unfold outOf
    rw [e, es]
    unfold PyFlat.told
    rw [List.flatMap_cons]
    rfl
theorem Rem.nil {S : Option Desk} {cs : List (List (List Int))} (h : Rem S [] cs) : cs = [] := by
  obtain ⟨f, hf⟩ := h.read
  cases f <;> exact (Option.some.inj hf).symm
theorem asked_rem {l : List Int} (h : PyKm437.answers_asked l = true) : ∃ cs, Rem none l cs ∧ cs.length ≤ 1000 ∧ PyKm437.answers l = outOf none cs := by
  unfold PyKm437.answers_asked at h
  cases e : PyFlat.calls PyKm437.shape l.length l with
  | none =>
    rw [e] at h
    cases h
  | some cs =>
    rw [e] at h
    simp only [Bool.and_eq_true] at h
    obtain ⟨⟨⟨⟨_, h1⟩, _⟩, h3⟩, _⟩ := h
    have hw := whole_calls l.length l.length l cs (Nat.le_refl _) e
    rw [hw] at h3
    unfold Km437Neutral.asked at h3
    simp only [Bool.and_eq_true] at h3
    refine ⟨cs, ⟨⟨_, e⟩, h3.2.2.1, h3.2.2.2⟩, of_decide_eq_true h1, ?_⟩
    unfold PyKm437.answers PyKm437.calls
    rw [e]
    dsimp only
    rw [hw]
    rfl
end Cg

end
section
set_option Elab.async false
set_option linter.all false
set_option maxRecDepth 100000
set_option maxHeartbeats 4000000
namespace Cg
open PySem PySem.Spec PyProof.Rows L2
open Km437 (Cabin Party Ship Desk Call act)
/-! ## What a change makes of a ship -/
def chgV (s : Ship) (x : Call) : Int := (act ⟨s, [], []⟩ x).2.value
def chgS (s : Ship) (x : Call) : Ship := (act ⟨s, [], []⟩ x).1.now
/-- a ship as it may be -/
structure Wf (s : Ship) : Prop where
  cab : s.cabins.length ≤ 12
  par : s.parties.length ≤ 8
  has : ∀ (p : Nat) (k : Nat), (s.party p).cabin = some k → k < s.cabins.length
/-- the addresses of the parts that may change -/
def Sh.foot (z : Sh) : List Addr := z.lc :: z.lp :: (z.cs ++ z.ps)
structure Frame (z z' : Sh) (H H' : Hp) : Prop where
  keep : ∀ b o, H b = some o → b ∉ z.foot → H' b = some o
  new : ∀ b, b ∈ z'.foot → b ∈ z.foot ∨ H b = none
theorem Frame.refl {z : Sh} {H H' : Hp} (e : Same H H') : Frame z z H H' := ⟨fun b o h _ => e b o h, fun b h => .inl h⟩
theorem foot_lc {z : Sh} : z.lc ∈ z.foot := List.mem_cons_self
theorem foot_lp {z : Sh} : z.lp ∈ z.foot := List.mem_cons_of_mem _ List.mem_cons_self
theorem foot_cs {z : Sh} {b : Addr} (h : b ∈ z.cs) : b ∈ z.foot := List.mem_cons_of_mem _ (List.mem_cons_of_mem _ (List.mem_append_left _ h))
theorem foot_ps {z : Sh} {b : Addr} (h : b ∈ z.ps) : b ∈ z.foot := List.mem_cons_of_mem _ (List.mem_cons_of_mem _ (List.mem_append_right _ h))
theorem foot_cs? {z : Sh} {b : Addr} {i : Nat} (h : z.cs[i]? = some b) : b ∈ z.foot := foot_cs (List.mem_of_getElem? h)
theorem foot_ps? {z : Sh} {b : Addr} {i : Nat} (h : z.ps[i]? = some b) : b ∈ z.foot := foot_ps (List.mem_of_getElem? h)
theorem put_cabin (p : Party) (o : Option Nat) : putF "cabin" (vO o) (parF p) = parF { p with cabin := o } := rfl
theorem put_gone (p : Party) (g : Bool) : putF "gone" (.bl g) (parF p) = parF { p with gone := g } := rfl
theorem put_rank (p : Party) (r : Nat) : putF "rank" (nV r) (parF p) = parF { p with rank := r } := rfl
theorem put_out (c : Cabin) (b : Bool) : putF "out" (nB b) (cabF c) = cabF { c with shut := b } := rfl
theorem sp_ne {x y d d' lc lp : Addr} {p : Party} : HO.ins x d (shipF lc lp) ≠ HO.ins y d' (parF p) := fun e => by
  injection e with _ _ e
  exact absurd (congrArg List.length e) (by show ¬ 2 = 5; decide)
theorem sc_ne {x y d d' lc lp : Addr} {c : Cabin} : HO.ins x d (shipF lc lp) ≠ HO.ins y d' (cabF c) := fun e => by
  injection e with _ _ e
  exact absurd (congrArg List.length e) (by show ¬ 2 = 6; decide)
theorem cp_ne {x y d d' : Addr} {c : Cabin} {p : Party} : HO.ins x d (cabF c) ≠ HO.ins y d' (parF p) := fun e => by
  injection e with _ _ e
  exact absurd (congrArg List.length e) (by show ¬ 6 = 5; decide)
theorem chg_ref {s : Ship} {x : Call} {v : Int} (h : act ⟨s, [], []⟩ x = (⟨s, [], []⟩, Km437.only v)) : chgV s x = v ∧ chgS s x = s := by
  unfold chgV chgS
  rw [h]
  exact ⟨rfl, rfl⟩
theorem chg_did {s t : Ship} {x : Call} {v : Int} (h : act ⟨s, [], []⟩ x = ((⟨s, [], []⟩ : Desk).become t, Km437.only v)) : chgV s x = v ∧ chgS s x = t := by
  unfold chgV chgS
  rw [h]
  exact ⟨rfl, rfl⟩
theorem ShipAt.setPar {C : Cl} {H H' : Hp} {a : Addr} {z : Sh} {s : Ship} {i : Nat} {b dx dx' : Addr} {fs : List (Str × V)} {p' : Party} (h : ShipAt C H a z s) (hb : z.ps[i]? = some b) (hH : H b = some (.ins C.P dx (parF (s.party i)))) (hH' : H' b = some (.ins C.P dx' (parF p'))) (k : ∀ c o, H c = some o → c ≠ b → H' c = some o) :
    ShipAt C H' a z { s with parties := s.parties.set i p' } := by
  refine ⟨k _ _ h.ship (ne_of h.ship hH sp_ne), k _ _ h.lc (ne_of h.lc hH (by intro e; cases e)), k _ _ h.lp (ne_of h.lp hH (by intro e; cases e)), h.ne, h.clen, by rw [List.length_set]; exact h.plen, fun j c e hj he => ?_, fun j c e hj he => ?_, h.cnd, h.pnd⟩
  · obtain ⟨dc, hc⟩ := h.cab j c e hj he
    exact ⟨dc, k _ _ hc (ne_of hc hH cp_ne)⟩
  · by_cases ij : j = i
    · subst ij
      rw [hb] at hj
      have hj := Option.some.inj hj
      subst hj
      have he2 : (s.parties.set j p')[j]? = some e := he
      rw [List.getElem?_set_self (by have := (List.getElem?_eq_some_iff.mp hb).1; rw [h.plen] at this; exact this)] at he2
      have he2 := Option.some.inj he2
      subst he2
      exact ⟨dx', hH'⟩
    · have he2 : (s.parties.set i p')[j]? = some e := he
      rw [List.getElem?_set_ne (Ne.symm ij)] at he2
      obtain ⟨dc, hc⟩ := h.par j c e hj he2
      exact ⟨dc, k _ _ hc (fun z => ij (nd_ix h.pnd hj (by rw [z]; exact hb)))⟩
theorem ShipAt.setCab {C : Cl} {H H' : Hp} {a : Addr} {z : Sh} {s : Ship} {i : Nat} {b dx dx' : Addr} {c' : Cabin} (h : ShipAt C H a z s) (hb : z.cs[i]? = some b) (hH : H b = some (.ins C.C dx (cabF (s.cabin i)))) (hH' : H' b = some (.ins C.C dx' (cabF c'))) (k : ∀ c o, H c = some o → c ≠ b → H' c = some o) :
    ShipAt C H' a z { s with cabins := s.cabins.set i c' } := by
  refine ⟨k _ _ h.ship (ne_of h.ship hH sc_ne), k _ _ h.lc (ne_of h.lc hH (by intro e; cases e)), k _ _ h.lp (ne_of h.lp hH (by intro e; cases e)), h.ne, by rw [List.length_set]; exact h.clen, h.plen, fun j c e hj he => ?_, fun j c e hj he => ?_, h.cnd, h.pnd⟩
  · by_cases ij : j = i
    · subst ij
      rw [hb] at hj
      have hj := Option.some.inj hj
      subst hj
      have he2 : (s.cabins.set j c')[j]? = some e := he
      rw [List.getElem?_set_self (by have := (List.getElem?_eq_some_iff.mp hb).1; rw [h.clen] at this; exact this)] at he2
      have he2 := Option.some.inj he2
      subst he2
      exact ⟨dx', hH'⟩
    · have he2 : (s.cabins.set i c')[j]? = some e := he
      rw [List.getElem?_set_ne (Ne.symm ij)] at he2
      obtain ⟨dc, hc⟩ := h.cab j c e hj he2
      exact ⟨dc, k _ _ hc (fun z => ij (nd_ix h.cnd hj (by rw [z]; exact hb)))⟩
  · obtain ⟨dc, hc⟩ := h.par j c e hj he
    exact ⟨dc, k _ _ hc (ne_of hc hH (Ne.symm cp_ne))⟩
/-- the refusals' numbers and the like at the program's top -/
def Cn (mg : Str → Option Value) (x : Str) (n : Int) : Prop := ∃ u, mg x = some u ∧ RelV (.int n) u
def spChg (C : Cl) (n : Nat) (mk : List Nat → Call) : Sp := fun vs H Q _ => ∃ (a : Addr) (z : Sh) (s : Ship) (ns : List Nat), vs = .ref a :: ns.map nV ∧ ns.length = n ∧ ShipAt C H a z s ∧ Wf s ∧
  ∀ (H' : Hp) (z' : Sh), ShipAt C H' a z' (chgS s (mk ns)) → Frame z z' H H' → Q (.int (chgV s (mk ns))) H'
def mkGive : List Nat → Call
  | [p, k] => .give p k
  | _ => .start
def mkLeave : List Nat → Call
  | [p] => .leave p
  | _ => .start
abbrev sGive : Stmt := top 38
abbrev sLeave : Stmt := top 39
theorem len2 {ns : List Nat} (h : ns.length = 2) : ∃ a b, ns = [a, b] := by
  match ns, h with
  | [a, b], _ => exact ⟨a, b, rfl⟩
theorem len1 {ns : List Nat} (h : ns.length = 1) : ∃ a, ns = [a] := by
  match ns, h with
  | [a], _ => exact ⟨a, rfl⟩
theorem is_lt {s : Ship} {p : Nat} (h : s.is p = true) : p < s.parties.length := by
  unfold Ship.is at h
  rw [Bool.and_eq_true] at h
  exact of_decide_eq_true h.1
theorem free_who {s : Ship} {k : Nat} (h : k < s.cabins.length) : s.free k = (s.who k).isNone := by
  unfold Ship.free
  rw [decide_eq_true h, Bool.true_and]
/-- the methods as callers have them -/
structure Ms (P : Program) (w : World) (K : PySem.W.Frag) (mg : Str → Option Value) (base : Heap) (C : Cl) (fa : Nat → Addr) (fd : Nat → FuncData) : Prop where
  hasC : Mt P w K mg base C.S 4 "has_cabin" ["self", "k"] (spHasC C) (fa 0) (fd 0)
  hasP : Mt P w K mg base C.S 4 "has_party" ["self", "p"] (spHasP C) (fa 1) (fd 1)
  isAt : Mt P w K mg base C.S 4 "is_at" ["self", "deck", "place"] (spIsAt C) (fa 2) (fd 2)
  isF : Mt P w K mg base C.S 4 "is_free" ["self", "k"] (spIsFree C) (fa 3) (fd 3)
  fr : Mt P w K mg base C.S 4 "free_cabins" ["self"] (spFrees C) (fa 4) (fd 4)
  wt : Mt P w K mg base C.S 4 "waiting_parties" ["self"] (spWaiting C) (fa 5) (fd 5)
  does : Mt P w K mg base C.S 4 "does" ["self", "p", "k"] (spDoes C) (fa 6) (fd 6)
  bes : Mt P w K mg base C.S 4 "is_beside" ["self", "k", "other"] (spBeside C) (fa 7) (fd 7)
  hol : Mt P w K mg base C.S 4 "holder_of" ["self", "k"] (spHolder C) (fa 8) (fd 8)
  allC : Mt P w K mg base C.S 4 "all_cabins" ["self"] (spAllC C) (fa 9) (fd 9)
  frA : Mt P w K mg base C.S 4 "free_among" ["self", "cabins"] (spFreeAm C) (fa 10) (fd 10)
  wts : Mt P w K mg base C.S 4 "waits" ["self", "p"] (spWaits C) (fa 11) (fd 11)
  hou : Mt P w K mg base C.S 4 "housed_parties" ["self"] (spHoused C) (fa 12) (fd 12)
  bet : Mt P w K mg base C.S 4 "is_better" ["self", "p"] (spBetter C) (fa 13) (fd 13)
section
variable {P : Program} {w : World} {K : PySem.W.Frag} {mg : Str → Option Value} {base : Heap} {C : Cl}
theorem scGive : FnScope ["ship", "p", "k", "party"] ["ship", "p", "k"] (defScope sGive) := ⟨rfl, rfl, rfl, by decide +kernel, rfl, by decide +kernel, by decide +kernel⟩
theorem ok_give {f : Addr} {fd : FuncData} {fa : Nat → Addr} {fds : Nat → FuncData} (F : Fun K "give_cabin" "give_cabin" sGive f fd) (T : Txt K C) (M : Ms P w K mg base C fa fds) (n2 : Cn mg "NOT_THERE" (-2)) (n17 : Cn mg "ALREADY_SO" (-17)) (n16 : Cn mg "NOT_FREE" (-16)) (n33 : Cn mg "DOES_NOT_DO" (-33)) :
    FnOk P w K mg base CX0 5 f fd ["ship", "p", "k"] (spChg C 2 mkGive) := by
  refine F.ok scGive (fun vs H Q E h => ?_) (fun cdv A outer s H vs Q E hr h => ?_)
  · obtain ⟨a, z, s, ns, rfl, hn, _⟩ := h
    obtain ⟨p, k, rfl⟩ := len2 hn
    rfl
  obtain ⟨a, z, sh, ns, rfl, hn, hS, hW, q⟩ := h
  obtain ⟨p, k, rfl⟩ := len2 hn
  obtain ⟨u2, m2, r2⟩ := n2
  obtain ⟨u17, m17, r17⟩ := n17
  obtain ⟨u16, m16, r16⟩ := n16
  obtain ⟨u33, m33, r33⟩ := n33
  refine ⟨_, pss_cons (ps_if (PW.pt (pw_or (pt_not (pt_val (pe_meth (pv 0) T.cS M.hasP.mt M.hasP.ok hr M.hasP.b .nil pass0 (pa_cons (pv 1) pa_nil)))) (pw_or1 (pt_not (pt_val (pe_meth (pv 0) T.cS M.hasC.mt M.hasC.ok hr M.hasC.b .nil pass0 (pa_cons (pv 2) pa_nil))))))) (pss_one (ps_ret (pe_glob rfl m2 r2))) pss_nil)
    (pss_cons (ps_set (i := 3) scGive.nd rfl (Or.inl rfl) (pe_ix ix_list (pe_fld (pv 0) rfl) (pv 1) (fun _ _ => rfl)))
    (pss_cons (ps_if (pt_cmp (pc_notN (pe_fld (pv 3) rfl))) (pss_one (ps_ret (pe_glob rfl m17 r17))) pss_nil)
    (pss_cons (ps_if (pt_not (pt_val (pe_meth (pv 0) T.cS M.isF.mt M.isF.ok hr M.isF.b .nil pass0 (pa_cons (pv 2) pa_nil)))) (pss_one (ps_ret (pe_glob rfl m16 r16))) pss_nil)
    (pss_cons (ps_if (pt_not (pt_val (pe_meth (pv 0) T.cS M.does.mt M.does.ok hr M.does.b .nil pass0 (pa_cons (pv 1) (pa_cons (pv 2) pa_nil))))) (pss_one (ps_ret (pe_glob rfl m33 r33))) pss_nil)
    (pss_cons (ps_fld (pv 3) (pv 2) rfl)
    (pss_one (ps_ret (pe_ifExp (pt_val (pe_meth (pv 0) T.cS M.bet.mt M.bet.ok hr M.bet.b .nil pass0 (pa_cons (pv 1) pa_nil))) pe_int pe_int)))))))), ?_⟩
  have refuse : ∀ v : Int, act ⟨sh, [], []⟩ (.give p k) = (⟨sh, [], []⟩, Km437.only v) → Q (.int v) H := fun v hv => by
    obtain ⟨ev, es⟩ := chg_ref hv
    have := q H z (by show ShipAt C H a z (chgS sh (.give p k)); rw [es]; exact hS) (Frame.refl (Same.refl H))
    have e2 : chgV sh (mkGive [p, k]) = v := ev
    rw [e2] at this
    exact this
  refine ⟨_, rfl, a, z.dx, _, rfl, hS.ship, ship_no (by decide) (by decide), _, rfl, a, z, sh, p, rfl, hS, _, rfl, ?_⟩
  cases hp : sh.is p with
  | false =>
    refine yes rfl (yes rfl ?_)
    have c0 : sh.is p = false ∨ sh.cabins.length ≤ k := .inl hp
    exact refuse _ (by unfold act; dsimp only; rw [if_pos c0])
  | true =>
    refine no rfl ⟨_, rfl, a, z.dx, _, rfl, hS.ship, ship_no (by decide) (by decide), _, rfl, a, z, sh, k, rfl, hS, _, rfl, ?_⟩
    by_cases hk : k < sh.cabins.length
    · rw [decide_eq_true hk]
      refine no rfl ?_
      have c1 : ¬ (sh.is p = false ∨ sh.cabins.length ≤ k) := by
        rw [hp]
        simp
        exact hk
      have hpl := is_lt hp
      obtain ⟨b, dx, hb, hb2⟩ := hS.parAt hpl
      obtain ⟨c, dc, hc, hc2⟩ := hS.cabAt hk
      refine ⟨_, rfl, a, C.S, z.dx, _, _, rfl, hS.ship, T.cS, T.s2, ship_parties _ _, _, rfl, z.lp, _, _, _, rfl, rfl, SqL.of hS.lp, list_at hb, ?_⟩
      refine ⟨_, rfl, b, C.P, dx, _, _, rfl, hb2, T.cP, T.p4, par_cabin _, _, rfl, ?_⟩
      rw [vO_non]
      cases ec : (sh.party p).cabin with
      | some k0 =>
        refine yes rfl ?_
        have c2 : (sh.party p).cabin.isSome = true := by rw [ec]; rfl
        exact refuse _ (by unfold act; dsimp only; rw [if_neg c1, if_pos c2])
      | none =>
        refine no rfl ⟨_, rfl, a, z.dx, _, rfl, hS.ship, ship_no (by decide) (by decide), _, rfl, a, z, sh, k, rfl, hS, hW.par, _, rfl, ?_⟩
        have c2 : ¬ (sh.party p).cabin.isSome = true := by rw [ec]; simp
        cases ef : (sh.who k).isNone with
        | false =>
          refine yes rfl ?_
          have c3 : sh.free k = false := by rw [free_who hk]; exact ef
          exact refuse _ (by unfold act; dsimp only; rw [if_neg c1, if_neg c2, if_pos c3])
        | true =>
          have c3 : ¬ sh.free k = false := by rw [free_who hk, ef]; simp
          refine no rfl ⟨_, rfl, a, z.dx, _, rfl, hS.ship, ship_no (by decide) (by decide), _, rfl, _, rfl, a, z, sh, p, k, rfl, hS, hpl, hk, _, rfl, ?_⟩
          cases ed : Km437.does (sh.cabin k) (sh.party p) with
          | false =>
            refine yes rfl ?_
            exact refuse _ (by unfold act; dsimp only; rw [if_neg c1, if_neg c2, if_neg c3, if_pos ed])
          | true =>
            have c4 : ¬ Km437.does (sh.cabin k) (sh.party p) = false := by rw [ed]; simp
            refine no rfl ⟨_, rfl, _, rfl, b, C.P, dx, _, rfl, hb2, T.cP, T.p4, (by show 5 < 1000; decide), ?_⟩
            obtain ⟨eV, eS⟩ := chg_did (s := sh) (x := .give p k) (t := sh.put p (some k)) (v := ((Km437.bit (decide ((sh.party p).rank < (sh.cabin k).rank)) : Nat) : Int)) (by unfold act; dsimp only; rw [if_neg c1, if_neg c2, if_neg c3, if_neg c4])
            have eF : putF "cabin" (nV k) (parF (sh.party p)) = parF { sh.party p with cabin := some k } := put_cabin _ (some k)
            rw [eF]
            have keep : ∀ d o, H d = some o → d ≠ b → (upd H b (.ins C.P dx (parF { sh.party p with cabin := some k }))) d = some o := fun d o e n => by rw [upd_ne n]; exact e
            have hS2 := hS.setPar (fs := []) hb hb2 (p' := { sh.party p with cabin := some k }) (dx' := dx) upd_same keep
            have hp2 : (sh.put p (some k)).party p = { sh.party p with cabin := some k } := by
              unfold Ship.party Ship.put
              rw [List.getD_eq_getElem?_getD]
              show ((sh.parties.set p _)[p]?).getD _ = _
              rw [List.getElem?_set_self hpl]
              rfl
            refine ⟨_, rfl, a, z.dx, _, rfl, hS2.ship, ship_no (by decide) (by decide), _, rfl, a, z, sh.put p (some k), p, k, rfl, hS2, (by show p < (sh.parties.set p _).length; rw [List.length_set]; exact hpl), (by rw [hp2]), hk, _, rfl, ?_⟩
            rw [hp2]
            show if decide ((sh.party p).rank < (sh.cabin k).rank) = true then _ else _
            have fin := q _ z (by show ShipAt C _ a z (chgS sh (.give p k)); rw [eS]; exact hS2) ⟨fun d o e n => keep d o e (fun x => n (by rw [x]; exact foot_ps? hb)), fun d hd => .inl hd⟩
            have e2 : chgV sh (mkGive [p, k]) = ((Km437.bit (decide ((sh.party p).rank < (sh.cabin k).rank)) : Nat) : Int) := eV
            rw [e2] at fin
            by_cases hrk : (sh.party p).rank < (sh.cabin k).rank
            · rw [decide_eq_true hrk] at fin
              exact yes (decide_eq_true hrk) fin
            · rw [decide_eq_false hrk] at fin
              exact no (decide_eq_false hrk) fin
    · rw [decide_eq_false hk]
      refine yes rfl ?_
      have c1 : sh.is p = false ∨ sh.cabins.length ≤ k := .inr (by omega)
      exact refuse _ (by unfold act; dsimp only; rw [if_pos c1])
end
end Cg

end
section
set_option Elab.async false
set_option linter.all false
set_option maxRecDepth 100000
set_option maxHeartbeats 4000000
namespace Cg
open PySem PySem.Spec PyProof.Rows L2
open Km437 (Cabin Party Ship Desk Call act)
def mkShut : List Nat → Call
  | [k, o] => .shut k o
  | _ => .start
def mkMove : List Nat → Call
  | [p, k] => .move p k
  | _ => .start
def mkSwap : List Nat → Call
  | [p, k] => .swap p k
  | _ => .start
def mkPay : List Nat → Call
  | [p, r] => .pay p r
  | _ => .start
abbrev sShut : Stmt := top 40
abbrev sMove : Stmt := top 41
abbrev sSwap : Stmt := top 42
abbrev sPay : Stmt := top 44
section
variable {P : Program} {w : World} {K : PySem.W.Frag} {mg : Str → Option Value} {base : Heap} {C : Cl}
theorem scLeave : FnScope ["ship", "p", "party", "had"] ["ship", "p"] (defScope sLeave) := ⟨rfl, rfl, rfl, by decide +kernel, rfl, by decide +kernel, by decide +kernel⟩
theorem ok_leave {f : Addr} {fd : FuncData} {fa : Nat → Addr} {fds : Nat → FuncData} (F : Fun K "leave_ship" "leave_ship" sLeave f fd) (T : Txt K C) (M : Ms P w K mg base C fa fds) (n2 : Cn mg "NOT_THERE" (-2)) : FnOk P w K mg base CX0 5 f fd ["ship", "p"] (spChg C 1 mkLeave) := by
  refine F.ok scLeave (fun vs H Q E h => ?_) (fun cdv A outer s H vs Q E hr h => ?_)
  · obtain ⟨a, z, s, ns, rfl, hn, _⟩ := h
    obtain ⟨p, rfl⟩ := len1 hn
    rfl
  obtain ⟨a, z, sh, ns, rfl, hn, hS, hW, q⟩ := h
  obtain ⟨p, rfl⟩ := len1 hn
  obtain ⟨u2, m2, r2⟩ := n2
  refine ⟨_, pss_cons (ps_if (pt_not (pt_val (pe_meth (pv 0) T.cS M.hasP.mt M.hasP.ok hr M.hasP.b .nil pass0 (pa_cons (pv 1) pa_nil)))) (pss_one (ps_ret (pe_glob rfl m2 r2))) pss_nil)
    (pss_cons (ps_set (i := 2) scLeave.nd rfl (Or.inl rfl) (pe_ix ix_list (pe_fld (pv 0) rfl) (pv 1) (fun _ _ => rfl)))
    (pss_cons (ps_set (i := 3) scLeave.nd rfl (Or.inl rfl) (pe_fld (pv 2) rfl))
    (pss_cons (ps_fld (pv 2) pe_bl rfl) (pss_cons (ps_fld (pv 2) pe_non rfl)
    (pss_one (ps_ret (pe_ifExp (pt_cmp (pc_isN (pv 3))) pe_int (pe_op op_add (pv 3) pe_int)))))))), ?_⟩
  refine ⟨_, rfl, a, z.dx, _, rfl, hS.ship, ship_no (by decide) (by decide), _, rfl, a, z, sh, p, rfl, hS, _, rfl, ?_⟩
  cases hp : sh.is p with
  | false =>
    refine yes rfl ?_
    obtain ⟨ev, es⟩ := chg_ref (s := sh) (x := .leave p) (v := -2) (by unfold act; dsimp only; rw [if_pos hp])
    have := q H z (by show ShipAt C H a z (chgS sh (.leave p)); rw [es]; exact hS) (Frame.refl (Same.refl H))
    have e2 : chgV sh (mkLeave [p]) = -2 := ev
    rw [e2] at this
    exact this
  | true =>
    have c1 : ¬ sh.is p = false := by rw [hp]; simp
    have hpl := is_lt hp
    obtain ⟨b, dx, hb, hb2⟩ := hS.parAt hpl
    refine no rfl ⟨_, rfl, a, C.S, z.dx, _, _, rfl, hS.ship, T.cS, T.s2, ship_parties _ _, _, rfl, z.lp, _, _, _, rfl, rfl, SqL.of hS.lp, list_at hb, ?_⟩
    refine ⟨_, rfl, b, C.P, dx, _, _, rfl, hb2, T.cP, T.p4, par_cabin _, ?_⟩
    refine ⟨_, rfl, b, C.P, dx, _, rfl, hb2, T.cP, T.p5, (by show 5 < 1000; decide), ?_⟩
    refine ⟨_, rfl, b, C.P, dx, _, rfl, upd_same, T.cP, T.p4, (by show 5 < 1000; decide), ?_⟩
    have eF : putF "cabin" V.non (putF "gone" (.bl true) (parF (sh.party p))) = parF { sh.party p with cabin := none, gone := true } := rfl
    rw [eF, upd_upd]
    have keep : ∀ d o, H d = some o → d ≠ b → (upd H b (.ins C.P dx (parF { sh.party p with cabin := none, gone := true }))) d = some o := fun d o e n => by rw [upd_ne n]; exact e
    have hS2 := hS.setPar (fs := []) hb hb2 (p' := { sh.party p with cabin := none, gone := true }) (dx' := dx) upd_same keep
    obtain ⟨eV, eS⟩ := chg_did (s := sh) (x := .leave p) (t := { sh with parties := sh.parties.set p { sh.party p with cabin := none, gone := true } }) (v := ((match (sh.party p).cabin with
      | some k => k + 1
      | none => 0 : Nat) : Int)) (by unfold act; dsimp only; rw [if_neg c1]; cases (sh.party p).cabin <;> rfl)
    have fin := q _ z (by show ShipAt C _ a z (chgS sh (.leave p)); rw [eS]; exact hS2) ⟨fun d o e n => keep d o e (fun x => n (by rw [x]; exact foot_ps? hb)), fun d hd => .inl hd⟩
    have e2 : chgV sh (mkLeave [p]) = _ := eV
    rw [e2] at fin
    refine ⟨_, rfl, _, rfl, ?_⟩
    rw [vO_non]
    cases ec : (sh.party p).cabin with
    | none =>
      rw [ec] at fin
      exact yes rfl fin
    | some k =>
      rw [ec] at fin
      exact no rfl ⟨_, rfl, _, _, rfl, rfl, fin⟩
theorem scPay : FnScope ["ship", "p", "rank", "party", "paid"] ["ship", "p", "rank"] (defScope sPay) := ⟨rfl, rfl, rfl, by decide +kernel, rfl, by decide +kernel, by decide +kernel⟩
theorem ok_pay {f : Addr} {fd : FuncData} {fa : Nat → Addr} {fds : Nat → FuncData} (F : Fun K "pay_class" "pay_class" sPay f fd) (T : Txt K C) (M : Ms P w K mg base C fa fds) (n2 : Cn mg "NOT_THERE" (-2)) (n22 : Cn mg "NOT_AS_TOLD" (-22)) (n33 : Cn mg "DOES_NOT_DO" (-33)) (b3 : Cn mg "BEST_CLASS" 3) :
    FnOk P w K mg base CX0 5 f fd ["ship", "p", "rank"] (spChg C 2 mkPay) := by
  refine F.ok scPay (fun vs H Q E h => ?_) (fun cdv A outer s H vs Q E hr h => ?_)
  · obtain ⟨a, z, s, ns, rfl, hn, _⟩ := h
    obtain ⟨p, k, rfl⟩ := len2 hn
    rfl
  obtain ⟨a, z, sh, ns, rfl, hn, hS, hW, q⟩ := h
  obtain ⟨p, r, rfl⟩ := len2 hn
  obtain ⟨u2, m2, r2⟩ := n2
  obtain ⟨u22, m22, r22⟩ := n22
  obtain ⟨u33, m33, r33⟩ := n33
  obtain ⟨u3, m3, r3⟩ := b3
  refine ⟨_, pss_cons (ps_if (pt_not (pt_val (pe_meth (pv 0) T.cS M.hasP.mt M.hasP.ok hr M.hasP.b .nil pass0 (pa_cons (pv 1) pa_nil)))) (pss_one (ps_ret (pe_glob rfl m2 r2))) pss_nil)
    (pss_cons (ps_set (i := 3) scPay.nd rfl (Or.inl rfl) (pe_ix ix_list (pe_fld (pv 0) rfl) (pv 1) (fun _ _ => rfl)))
    (pss_cons (ps_if (PW.pt (pw_or (pt_cmpR op_gt (pv 2) (pe_glob rfl m3 r3) (nomark _)) (pw_or1 (pt_cmpR op_eq (pv 2) (pe_fld (pv 3) rfl) (nomark _))))) (pss_one (ps_ret (pe_glob rfl m22 r22))) pss_nil)
    (pss_cons (ps_if (PW.pt (pw_and (pt_cmp (pc_notN (pe_fld (pv 3) rfl))) (pw_and1 (pt_cmpR op_lt (pe_fld (pe_ix ix_list (pe_fld (pv 0) rfl) (pe_fld (pv 3) rfl) (fun _ _ => rfl)) rfl) (pv 2) (nomark _))))) (pss_one (ps_ret (pe_glob rfl m33 r33))) pss_nil)
    (pss_cons (ps_set (i := 4) scPay.nd rfl (Or.inl rfl) (pe_fld (pv 3) rfl))
    (pss_cons (ps_fld (pv 3) (pv 2) rfl) (pss_one (ps_ret (pv 4)))))))), ?_⟩
  have refuse : ∀ v : Int, act ⟨sh, [], []⟩ (.pay p r) = (⟨sh, [], []⟩, Km437.only v) → Q (.int v) H := fun v hv => by
    obtain ⟨ev, es⟩ := chg_ref hv
    have := q H z (by show ShipAt C H a z (chgS sh (.pay p r)); rw [es]; exact hS) (Frame.refl (Same.refl H))
    have e2 : chgV sh (mkPay [p, r]) = v := ev
    rw [e2] at this
    exact this
  refine ⟨_, rfl, a, z.dx, _, rfl, hS.ship, ship_no (by decide) (by decide), _, rfl, a, z, sh, p, rfl, hS, _, rfl, ?_⟩
  cases hp : sh.is p with
  | false => exact yes rfl (refuse _ (by unfold act; dsimp only; rw [if_pos hp]))
  | true =>
    have c1 : ¬ sh.is p = false := by rw [hp]; simp
    have hpl := is_lt hp
    obtain ⟨b, dx, hb, hb2⟩ := hS.parAt hpl
    refine no rfl ⟨_, rfl, a, C.S, z.dx, _, _, rfl, hS.ship, T.cS, T.s2, ship_parties _ _, _, rfl, z.lp, _, _, _, rfl, rfl, SqL.of hS.lp, list_at hb, ?_⟩
    refine ⟨_, rfl, _, _, rfl, rfl, _, rfl, ?_⟩
    by_cases h3 : 3 < r
    · have c2 : 3 < r ∨ r = (sh.party p).rank := .inl h3
      exact yes (decide_eq_true (by show (3 : Int) < ((r : Nat) : Int); omega)) (yes rfl (refuse _ (by unfold act; dsimp only; rw [if_neg c1, if_pos c2])))
    · refine no (decide_eq_false (by show ¬ (3 : Int) < ((r : Nat) : Int); omega)) ⟨_, rfl, _, rfl, b, C.P, dx, _, _, rfl, hb2, T.cP, T.p2, par_rank _, rfl, _, rfl, ?_⟩
      rw [nV_eq]
      by_cases h4 : r = (sh.party p).rank
      · have c2 : 3 < r ∨ r = (sh.party p).rank := .inr h4
        exact yes (beq_iff_eq.mpr h4) (refuse _ (by unfold act; dsimp only; rw [if_neg c1, if_pos c2]))
      · have c2 : ¬ (3 < r ∨ r = (sh.party p).rank) := by omega
        refine no (beq_eq_false_iff_ne.mpr h4) ⟨_, rfl, b, C.P, dx, _, _, rfl, hb2, T.cP, T.p4, par_cabin _, _, rfl, ?_⟩
        rw [vO_non]
        have done : act ⟨sh, [], []⟩ (.pay p r) = ((⟨sh, [], []⟩ : Desk).become { sh with parties := sh.parties.set p { sh.party p with rank := r } }, Km437.only (((sh.party p).rank : Nat) : Int)) →
            Q (nV (sh.party p).rank) (upd H b (.ins C.P dx (putF "rank" (nV r) (parF (sh.party p))))) := fun hv => by
          obtain ⟨eV, eS⟩ := chg_did hv
          rw [put_rank]
          have keep : ∀ d o, H d = some o → d ≠ b → (upd H b (.ins C.P dx (parF { sh.party p with rank := r }))) d = some o := fun d o e n => by rw [upd_ne n]; exact e
          have hS2 := hS.setPar (fs := []) hb hb2 (p' := { sh.party p with rank := r }) (dx' := dx) upd_same keep
          have fin := q _ z (by show ShipAt C _ a z (chgS sh (.pay p r)); rw [eS]; exact hS2) ⟨fun d o e n => keep d o e (fun x => n (by rw [x]; exact foot_ps? hb)), fun d hd => .inl hd⟩
          have e2 : chgV sh (mkPay [p, r]) = _ := eV
          rw [e2] at fin
          exact fin
        cases ec : (sh.party p).cabin with
        | none =>
          refine no rfl (no rfl ⟨_, rfl, b, C.P, dx, _, _, rfl, hb2, T.cP, T.p2, par_rank _, _, rfl, _, rfl, b, C.P, dx, _, rfl, hb2, T.cP, T.p2, (by show 5 < 1000; decide), _, rfl, ?_⟩)
          exact done (by unfold act; dsimp only; rw [if_neg c1, if_neg c2, ec])
        | some k =>
          have hk := hW.has p k ec
          obtain ⟨c, dc, hc, hc2⟩ := hS.cabAt hk
          refine yes rfl ⟨_, rfl, a, C.S, z.dx, _, _, rfl, hS.ship, T.cS, T.s1, ship_cabins _ _, _, rfl, b, C.P, dx, _, _, rfl, hb2, T.cP, T.p4, par_cabin _, z.lc, _, (k : Int), _, rfl, by rw [ec]; rfl, SqL.of hS.lc, list_at hc, c, C.C, dc, _, _, rfl, hc2, T.cC, T.c3, cab_rank _, _, rfl, _, _, rfl, rfl, _, rfl, ?_⟩
          by_cases h5 : (sh.cabin k).rank < r
          · refine yes (decide_eq_true (by show (((sh.cabin k).rank : Nat) : Int) < ((r : Nat) : Int); omega)) (refuse _ ?_)
            unfold act
            dsimp only
            rw [if_neg c1, if_neg c2, ec]
            dsimp only
            rw [if_pos h5]
          · refine no (decide_eq_false (by show ¬ (((sh.cabin k).rank : Nat) : Int) < ((r : Nat) : Int); omega)) ⟨_, rfl, b, C.P, dx, _, _, rfl, hb2, T.cP, T.p2, par_rank _, _, rfl, _, rfl, b, C.P, dx, _, rfl, hb2, T.cP, T.p2, (by show 5 < 1000; decide), _, rfl, ?_⟩
            refine done ?_
            unfold act
            dsimp only
            rw [if_neg c1, if_neg c2, ec]
            dsimp only
            rw [if_neg h5]
theorem scMove : FnScope ["ship", "p", "k", "party", "had"] ["ship", "p", "k"] (defScope sMove) := ⟨rfl, rfl, rfl, by decide +kernel, rfl, by decide +kernel, by decide +kernel⟩
theorem ok_move {f : Addr} {fd : FuncData} {fa : Nat → Addr} {fds : Nat → FuncData} (F : Fun K "move_party" "move_party" sMove f fd) (T : Txt K C) (M : Ms P w K mg base C fa fds) (n2 : Cn mg "NOT_THERE" (-2)) (n6 : Cn mg "NOBODY" (-6)) (n16 : Cn mg "NOT_FREE" (-16)) (n33 : Cn mg "DOES_NOT_DO" (-33)) :
    FnOk P w K mg base CX0 5 f fd ["ship", "p", "k"] (spChg C 2 mkMove) := by
  refine F.ok scMove (fun vs H Q E h => ?_) (fun cdv A outer s H vs Q E hr h => ?_)
  · obtain ⟨a, z, s, ns, rfl, hn, _⟩ := h
    obtain ⟨p, k, rfl⟩ := len2 hn
    rfl
  obtain ⟨a, z, sh, ns, rfl, hn, hS, hW, q⟩ := h
  obtain ⟨p, k, rfl⟩ := len2 hn
  obtain ⟨u2, m2, r2⟩ := n2
  obtain ⟨u6, m6, r6⟩ := n6
  obtain ⟨u16, m16, r16⟩ := n16
  obtain ⟨u33, m33, r33⟩ := n33
  refine ⟨_, pss_cons (ps_if (PW.pt (pw_or (pt_not (pt_val (pe_meth (pv 0) T.cS M.hasP.mt M.hasP.ok hr M.hasP.b .nil pass0 (pa_cons (pv 1) pa_nil)))) (pw_or1 (pt_not (pt_val (pe_meth (pv 0) T.cS M.hasC.mt M.hasC.ok hr M.hasC.b .nil pass0 (pa_cons (pv 2) pa_nil))))))) (pss_one (ps_ret (pe_glob rfl m2 r2))) pss_nil)
    (pss_cons (ps_set (i := 3) scMove.nd rfl (Or.inl rfl) (pe_ix ix_list (pe_fld (pv 0) rfl) (pv 1) (fun _ _ => rfl)))
    (pss_cons (ps_if (pt_cmp (pc_isN (pe_fld (pv 3) rfl))) (pss_one (ps_ret (pe_glob rfl m6 r6))) pss_nil)
    (pss_cons (ps_if (pt_not (pt_val (pe_meth (pv 0) T.cS M.isF.mt M.isF.ok hr M.isF.b .nil pass0 (pa_cons (pv 2) pa_nil)))) (pss_one (ps_ret (pe_glob rfl m16 r16))) pss_nil)
    (pss_cons (ps_if (pt_not (pt_val (pe_meth (pv 0) T.cS M.does.mt M.does.ok hr M.does.b .nil pass0 (pa_cons (pv 1) (pa_cons (pv 2) pa_nil))))) (pss_one (ps_ret (pe_glob rfl m33 r33))) pss_nil)
    (pss_cons (ps_set (i := 4) scMove.nd rfl (Or.inl rfl) (pe_fld (pv 3) rfl))
    (pss_cons (ps_fld (pv 3) (pv 2) rfl) (pss_one (ps_ret (pv 4))))))))), ?_⟩
  have refuse : ∀ v : Int, act ⟨sh, [], []⟩ (.move p k) = (⟨sh, [], []⟩, Km437.only v) → Q (.int v) H := fun v hv => by
    obtain ⟨ev, es⟩ := chg_ref hv
    have := q H z (by show ShipAt C H a z (chgS sh (.move p k)); rw [es]; exact hS) (Frame.refl (Same.refl H))
    have e2 : chgV sh (mkMove [p, k]) = v := ev
    rw [e2] at this
    exact this
  refine ⟨_, rfl, a, z.dx, _, rfl, hS.ship, ship_no (by decide) (by decide), _, rfl, a, z, sh, p, rfl, hS, _, rfl, ?_⟩
  cases hp : sh.is p with
  | false =>
    have c0 : sh.is p = false ∨ sh.cabins.length ≤ k := .inl hp
    exact yes rfl (yes rfl (refuse _ (by unfold act; dsimp only; rw [if_pos c0])))
  | true =>
    refine no rfl ⟨_, rfl, a, z.dx, _, rfl, hS.ship, ship_no (by decide) (by decide), _, rfl, a, z, sh, k, rfl, hS, _, rfl, ?_⟩
    by_cases hk : k < sh.cabins.length
    · rw [decide_eq_true hk]
      refine no rfl ?_
      have c1 : ¬ (sh.is p = false ∨ sh.cabins.length ≤ k) := by
        rw [hp]
        simp
        exact hk
      have hpl := is_lt hp
      obtain ⟨b, dx, hb, hb2⟩ := hS.parAt hpl
      refine ⟨_, rfl, a, C.S, z.dx, _, _, rfl, hS.ship, T.cS, T.s2, ship_parties _ _, _, rfl, z.lp, _, _, _, rfl, rfl, SqL.of hS.lp, list_at hb, ?_⟩
      refine ⟨_, rfl, b, C.P, dx, _, _, rfl, hb2, T.cP, T.p4, par_cabin _, _, rfl, ?_⟩
      rw [vO_non]
      cases ec : (sh.party p).cabin with
      | none => exact yes rfl (refuse _ (by unfold act; dsimp only; rw [if_neg c1, ec]))
      | some j =>
        refine no rfl ⟨_, rfl, a, z.dx, _, rfl, hS.ship, ship_no (by decide) (by decide), _, rfl, a, z, sh, k, rfl, hS, hW.par, _, rfl, ?_⟩
        cases ef : (sh.who k).isNone with
        | false =>
          have c3 : sh.free k = false := by rw [free_who hk]; exact ef
          exact yes rfl (refuse _ (by unfold act; dsimp only; rw [if_neg c1, ec]; dsimp only; rw [if_pos c3]))
        | true =>
          have c3 : ¬ sh.free k = false := by rw [free_who hk, ef]; simp
          refine no rfl ⟨_, rfl, a, z.dx, _, rfl, hS.ship, ship_no (by decide) (by decide), _, rfl, _, rfl, a, z, sh, p, k, rfl, hS, hpl, hk, _, rfl, ?_⟩
          cases ed : Km437.does (sh.cabin k) (sh.party p) with
          | false => exact yes rfl (refuse _ (by unfold act; dsimp only; rw [if_neg c1, ec]; dsimp only; rw [if_neg c3, if_pos ed]))
          | true =>
            have c4 : ¬ Km437.does (sh.cabin k) (sh.party p) = false := by rw [ed]; simp
            refine no rfl ⟨_, rfl, b, C.P, dx, _, _, rfl, hb2, T.cP, T.p4, par_cabin _, _, rfl, _, rfl, b, C.P, dx, _, rfl, hb2, T.cP, T.p4, (by show 5 < 1000; decide), _, rfl, ?_⟩
            obtain ⟨eV, eS⟩ := chg_did (s := sh) (x := .move p k) (t := sh.put p (some k)) (v := (j : Int)) (by unfold act; dsimp only; rw [if_neg c1, ec]; dsimp only; rw [if_neg c3, if_neg c4])
            have eF : putF "cabin" (nV k) (parF (sh.party p)) = parF { sh.party p with cabin := some k } := put_cabin _ (some k)
            rw [eF]
            have keep : ∀ d o, H d = some o → d ≠ b → (upd H b (.ins C.P dx (parF { sh.party p with cabin := some k }))) d = some o := fun d o e n => by rw [upd_ne n]; exact e
            have hS2 := hS.setPar (fs := []) hb hb2 (p' := { sh.party p with cabin := some k }) (dx' := dx) upd_same keep
            have fin := q _ z (by show ShipAt C _ a z (chgS sh (.move p k)); rw [eS]; exact hS2) ⟨fun d o e n => keep d o e (fun x => n (by rw [x]; exact foot_ps? hb)), fun d hd => .inl hd⟩
            have e2 : chgV sh (mkMove [p, k]) = (j : Int) := eV
            rw [e2] at fin
            rw [ec]
            exact fin
    · rw [decide_eq_false hk]
      have c1 : sh.is p = false ∨ sh.cabins.length ≤ k := .inr (by omega)
      exact yes rfl (refuse _ (by unfold act; dsimp only; rw [if_pos c1]))
theorem scShut : FnScope ["ship", "k", "out"] ["ship", "k", "out"] (defScope sShut) := ⟨rfl, rfl, rfl, by decide +kernel, rfl, by decide +kernel, by decide +kernel⟩
theorem nB_nV (b : Bool) (n : Nat) (h : n ≤ 1) : decide (nB b = nV n) = decide (b = (n == 1)) := by
  match n, h with
  | 0, _ => cases b <;> decide
  | 1, _ => cases b <;> decide
theorem frees_set (s : Ship) (k : Nat) (c : Cabin) : ({ s with cabins := s.cabins.set k c } : Ship).frees = s.frees := by
  unfold Ship.frees Ship.free
  rw [List.length_set]
  rfl
theorem ok_shut {f : Addr} {fd : FuncData} {fa : Nat → Addr} {fds : Nat → FuncData} (F : Fun K "shut_cabin" "shut_cabin" sShut f fd) (T : Txt K C) (M : Ms P w K mg base C fa fds) (ml : mg "len" = none) (n2 : Cn mg "NOT_THERE" (-2)) (n22 : Cn mg "NOT_AS_TOLD" (-22)) (n16 : Cn mg "NOT_FREE" (-16)) (n17 : Cn mg "ALREADY_SO" (-17)) :
    FnOk P w K mg base CX0 5 f fd ["ship", "k", "out"] (spChg C 2 mkShut) := by
  refine F.ok scShut (fun vs H Q E h => ?_) (fun cdv A outer s H vs Q E hr h => ?_)
  · obtain ⟨a, z, s, ns, rfl, hn, _⟩ := h
    obtain ⟨p, k, rfl⟩ := len2 hn
    rfl
  obtain ⟨a, z, sh, ns, rfl, hn, hS, hW, q⟩ := h
  obtain ⟨k, o, rfl⟩ := len2 hn
  obtain ⟨u2, m2, r2⟩ := n2
  obtain ⟨u22, m22, r22⟩ := n22
  obtain ⟨u16, m16, r16⟩ := n16
  obtain ⟨u17, m17, r17⟩ := n17
  refine ⟨_, pss_cons (ps_if (pt_not (pt_val (pe_meth (pv 0) T.cS M.hasC.mt M.hasC.ok hr M.hasC.b .nil pass0 (pa_cons (pv 1) pa_nil)))) (pss_one (ps_ret (pe_glob rfl m2 r2))) pss_nil)
    (pss_cons (ps_if (pt_cmpR op_gt (pv 2) pe_int (nomark _)) (pss_one (ps_ret (pe_glob rfl m22 r22))) pss_nil)
    (pss_cons (ps_if (pt_cmpR op_eq (pe_fld (pe_ix ix_list (pe_fld (pv 0) rfl) (pv 1) (fun _ _ => rfl)) rfl) (pv 2) (nomark _)) (pss_one (ps_ret (pe_glob rfl m17 r17))) pss_nil)
    (pss_cons (ps_if (PW.pt (pw_and (pt_cmpR op_eq (pv 2) pe_int (nomark _)) (pw_and1 (pt_not (pt_val (pe_meth (pv 0) T.cS M.isF.mt M.isF.ok hr M.isF.b .nil pass0 (pa_cons (pv 1) pa_nil))))))) (pss_one (ps_ret (pe_glob rfl m16 r16))) pss_nil)
    (pss_cons (ps_fld (pe_ix ix_list (pe_fld (pv 0) rfl) (pv 1) (fun _ _ => rfl)) (pv 2) rfl)
    (pss_one (ps_ret (pe_callB call_len_seq rfl ml PySem.boot_len (pa_cons (pe_meth0 (pv 0) T.cS M.fr.mt M.fr.ok hr M.fr.b .nil pass0) pa_nil)))))))), ?_⟩
  have refuse : ∀ v : Int, act ⟨sh, [], []⟩ (.shut k o) = (⟨sh, [], []⟩, Km437.only v) → Q (.int v) H := fun v hv => by
    obtain ⟨ev, es⟩ := chg_ref hv
    have := q H z (by show ShipAt C H a z (chgS sh (.shut k o)); rw [es]; exact hS) (Frame.refl (Same.refl H))
    have e2 : chgV sh (mkShut [k, o]) = v := ev
    rw [e2] at this
    exact this
  refine ⟨_, rfl, a, z.dx, _, rfl, hS.ship, ship_no (by decide) (by decide), _, rfl, a, z, sh, k, rfl, hS, _, rfl, ?_⟩
  by_cases hk : k < sh.cabins.length
  · rw [decide_eq_true hk]
    have c1 : ¬ sh.cabins.length ≤ k := by omega
    obtain ⟨c, dc, hc, hc2⟩ := hS.cabAt hk
    refine no rfl ⟨_, rfl, _, _, rfl, rfl, _, rfl, ?_⟩
    by_cases ho : 1 < o
    · exact yes (decide_eq_true (by show (1 : Int) < ((o : Nat) : Int); omega)) (refuse _ (by unfold act; dsimp only; rw [if_neg c1, if_pos ho]))
    · refine no (decide_eq_false (by show ¬ (1 : Int) < ((o : Nat) : Int); omega)) ⟨_, rfl, a, C.S, z.dx, _, _, rfl, hS.ship, T.cS, T.s1, ship_cabins _ _, _, rfl, z.lc, _, _, _, rfl, rfl, SqL.of hS.lc, list_at hc, c, C.C, dc, _, _, rfl, hc2, T.cC, T.c6, cab_out _, _, rfl, rfl, _, rfl, ?_⟩
      rw [nB_nV _ o (by omega)]
      by_cases hs : (sh.cabin k).shut = (o == 1)
      · exact yes (decide_eq_true hs) (refuse _ (by unfold act; dsimp only; rw [if_neg c1, if_neg ho, if_pos hs]))
      · refine no (decide_eq_false hs) ⟨_, rfl, rfl, _, rfl, ?_⟩
        have last : ¬ (o = 1 ∧ sh.free k = false) → tSeq (sFld K (tOp (rIxL K) (tFld K (tVar 0) "cabins") (tVar 1)) (tVar 2) "out") (tRet (tCB (fun xs H Q => ∃ p ys, xs = [.ref p] ∧ (SqL K H p ys ∨ SqT K H p ys) ∧ Q (.int ys.length) H) (tCons (tMeth C.S "free_cabins" (spFrees C) [] E0 (tVar 0) tNil) tNil))) { nx := fun _ H' => Q .non H', rt := Q } [some (.ref a), some (nV k), some (nV o)] H := fun c5 => by
          obtain ⟨eV, eS⟩ := chg_did (s := sh) (x := .shut k o) (t := { sh with cabins := sh.cabins.set k { sh.cabin k with shut := o == 1 } }) (v := ((sh.frees.length : Nat) : Int)) (by unfold act; dsimp only; rw [if_neg c1, if_neg ho, if_neg hs, if_neg c5])
          refine ⟨_, rfl, _, rfl, a, C.S, z.dx, _, _, rfl, hS.ship, T.cS, T.s1, ship_cabins _ _, _, rfl, z.lc, _, _, _, rfl, rfl, SqL.of hS.lc, list_at hc, c, C.C, dc, _, rfl, hc2, T.cC, T.c6, (by show 6 < 1000; decide), ?_⟩
          have eo : nV o = nB (o == 1) := by
            match o, ho with
            | 0, _ => rfl
            | 1, _ => rfl
            | o + 2, h => exact absurd (by omega) h
          rw [eo, put_out]
          have keep : ∀ d o', H d = some o' → d ≠ c → (upd H c (.ins C.C dc (cabF { sh.cabin k with shut := o == 1 }))) d = some o' := fun d o' e n => by rw [upd_ne n]; exact e
          have hS2 := hS.setCab hc hc2 (c' := { sh.cabin k with shut := o == 1 }) (dx' := dc) upd_same keep
          refine ⟨_, rfl, a, z.dx, _, rfl, hS2.ship, ship_no (by decide) (by decide), a, z, _, rfl, hS2, by show (sh.cabins.set k _).length ≤ 12; rw [List.length_set]; exact hW.cab, hW.par, fun H3 r n3 s3 hr3 => ?_⟩
          rw [frees_set] at hr3
          refine ⟨r, _, rfl, .inl (SqL.of hr3), ?_⟩
          rw [List.length_map]
          have fin := q H3 z (by show ShipAt C _ a z (chgS sh (.shut k o)); rw [eS]; exact hS2.same s3) ⟨fun d o' e n => s3 _ _ (keep d o' e (fun x => n (by rw [x]; exact foot_cs? hc))), fun d hd => .inl hd⟩
          have e2 : chgV sh (mkShut [k, o]) = _ := eV
          rw [e2] at fin
          exact fin
        by_cases h1 : o = 1
        · refine yes (decide_eq_true (by rw [h1]; rfl)) ⟨_, rfl, a, z.dx, _, rfl, hS.ship, ship_no (by decide) (by decide), _, rfl, a, z, sh, k, rfl, hS, hW.par, _, rfl, ?_⟩
          cases ef : (sh.who k).isNone with
          | false =>
            have c5 : o = 1 ∧ sh.free k = false := ⟨h1, by rw [free_who hk]; exact ef⟩
            exact yes rfl (refuse _ (by unfold act; dsimp only; rw [if_neg c1, if_neg ho, if_neg hs, if_pos c5]))
          | true => exact no rfl (last (fun z => by rw [free_who hk, ef] at z; cases z.2))
        · have e0 : decide (nV o = V.int 1) = false := decide_eq_false (fun e => h1 (by have := V.int.inj (show V.int ((o : Nat) : Int) = V.int 1 from e); omega))
          exact no e0 (no rfl (last (fun z => h1 z.1)))
  · rw [decide_eq_false hk]
    have c1 : sh.cabins.length ≤ k := by omega
    exact yes rfl (refuse _ (by unfold act; dsimp only; rw [if_pos c1]))
end
end Cg

end
section
set_option Elab.async false
set_option linter.all false
set_option maxRecDepth 100000
set_option maxHeartbeats 4000000
namespace Cg
open PySem PySem.Spec PyProof.Rows L2
open Km437 (Cabin Party Ship Desk Call act)
abbrev sCInit : Stmt := inClass (top 8) 0
abbrev sPInit : Stmt := inClass (top 9) 0
abbrev sAddC : Stmt := top 36
abbrev sAddP : Stmt := top 37
def mkCabin : List Nat → Call
  | [d, p, r, b, f] => .cabin d p r b f
  | _ => .start
def mkParty : List Nat → Call
  | [m, r, f] => .party m r f
  | _ => .start
theorem len3 {ns : List Nat} (h : ns.length = 3) : ∃ a b c, ns = [a, b, c] := by
  match ns, h with
  | [a, b, c], _ => exact ⟨a, b, c, rfl⟩
theorem len5 {ns : List Nat} (h : ns.length = 5) : ∃ a b c d e, ns = [a, b, c, d, e] := by
  match ns, h with
  | [a, b, c, d, e], _ => exact ⟨a, b, c, d, e, rfl⟩
theorem nV_bit {f : Nat} (h : f ≤ 1) : nV f = nB (f == 1) := by
  match f, h with
  | 0, _ => rfl
  | 1, _ => rfl
theorem party_put {s : Ship} {p q : Nat} (o : Option Nat) (h : p ≠ q) : (s.put p o).party q = s.party q := by
  unfold Ship.put Ship.party
  rw [List.getD_eq_getElem?_getD, List.getD_eq_getElem?_getD]
  show ((s.parties.set p _)[q]?).getD _ = _
  rw [List.getElem?_set_ne h, List.getD_eq_getElem?_getD]
def spCInit (C : Cl) : Sp := fun vs H Q _ => ∃ (x dx : Addr) (d p r b f : Nat), vs = [.ref x, nV d, nV p, nV r, nV b, nV f] ∧ f ≤ 1 ∧ H x = some (.ins C.C dx []) ∧
  ∀ H' : Hp, H' x = some (.ins C.C dx (cabF ⟨d, p, r, b, f == 1, false⟩)) → (∀ e o, H e = some o → e ≠ x → H' e = some o) → Q .non H'
def spPInit (C : Cl) : Sp := fun vs H Q _ => ∃ (x dx : Addr) (m r f : Nat), vs = [.ref x, nV m, nV r, nV f] ∧ f ≤ 1 ∧ H x = some (.ins C.P dx []) ∧
  ∀ H' : Hp, H' x = some (.ins C.P dx (parF ⟨m, r, f == 1, none, false⟩)) → (∀ e o, H e = some o → e ≠ x → H' e = some o) → Q .non H'
theorem ShipAt.addCab {C : Cl} {H H' : Hp} {a x dx : Addr} {z : Sh} {s : Ship} {c : Cabin} (h : ShipAt C H a z s) (hx : H x = none) (hx' : H' x = some (.ins C.C dx (cabF c))) (hl : H' z.lc = some (.lst ((z.cs ++ [x]).map V.ref))) (k : ∀ b o, H b = some o → b ≠ z.lc → H' b = some o) :
    ShipAt C H' a { z with cs := z.cs ++ [x] } { s with cabins := s.cabins ++ [c] } := by
  refine ⟨k _ _ h.ship (ne_of h.ship h.lc (by intro e; cases e)), hl, k _ _ h.lp (Ne.symm h.ne), h.ne, by rw [List.length_append, List.length_append, h.clen]; rfl, h.plen, fun i b e hb he => ?_, fun i b e hb he => ?_, ?_, h.pnd⟩
  · have hb : (z.cs ++ [x])[i]? = some b := hb
    have he : (s.cabins ++ [c])[i]? = some e := he
    by_cases hi : i < z.cs.length
    · rw [List.getElem?_append_left hi] at hb
      rw [List.getElem?_append_left (by rw [← h.clen]; exact hi)] at he
      obtain ⟨dc, hc⟩ := h.cab i b e hb he
      exact ⟨dc, k _ _ hc (ne_of hc h.lc (by intro e; cases e))⟩
    · rw [List.getElem?_append_right (by omega)] at hb
      rw [List.getElem?_append_right (by rw [← h.clen]; omega), ← h.clen] at he
      have i0 : i - z.cs.length = 0 := by
        by_cases e0 : i - z.cs.length = 0
        · exact e0
        · rw [List.getElem?_eq_none (by rw [List.length_singleton]; omega)] at hb
          cases hb
      rw [i0] at hb he
      have hb : x = b := Option.some.inj hb
      have he : c = e := Option.some.inj he
      rw [← hb, ← he]
      exact ⟨dx, hx'⟩
  · obtain ⟨dc, hc⟩ := h.par i b e hb he
    exact ⟨dc, k _ _ hc (ne_of hc h.lc (by intro e; cases e))⟩
  · refine nd_snoc h.cnd fun hm => ?_
    obtain ⟨i, hi, e⟩ := List.getElem_of_mem hm
    have hi' : i < s.cabins.length := by rw [← h.clen]; exact hi
    obtain ⟨dc, hc⟩ := h.cab i x _ (by rw [List.getElem?_eq_getElem hi, e]) (List.getElem?_eq_getElem hi')
    rw [hx] at hc
    cases hc
theorem ShipAt.addPar {C : Cl} {H H' : Hp} {a x dx : Addr} {z : Sh} {s : Ship} {c : Party} (h : ShipAt C H a z s) (hx : H x = none) (hx' : H' x = some (.ins C.P dx (parF c))) (hl : H' z.lp = some (.lst ((z.ps ++ [x]).map V.ref))) (k : ∀ b o, H b = some o → b ≠ z.lp → H' b = some o) :
    ShipAt C H' a { z with ps := z.ps ++ [x] } { s with parties := s.parties ++ [c] } := by
  refine ⟨k _ _ h.ship (ne_of h.ship h.lp (by intro e; cases e)), k _ _ h.lc h.ne, hl, h.ne, h.clen, by rw [List.length_append, List.length_append, h.plen]; rfl, fun i b e hb he => ?_, fun i b e hb he => ?_, h.cnd, ?_⟩
  · obtain ⟨dc, hc⟩ := h.cab i b e hb he
    exact ⟨dc, k _ _ hc (ne_of hc h.lp (by intro e; cases e))⟩
  · have hb : (z.ps ++ [x])[i]? = some b := hb
    have he : (s.parties ++ [c])[i]? = some e := he
    by_cases hi : i < z.ps.length
    · rw [List.getElem?_append_left hi] at hb
      rw [List.getElem?_append_left (by rw [← h.plen]; exact hi)] at he
      obtain ⟨dc, hc⟩ := h.par i b e hb he
      exact ⟨dc, k _ _ hc (ne_of hc h.lp (by intro e; cases e))⟩
    · rw [List.getElem?_append_right (by omega)] at hb
      rw [List.getElem?_append_right (by rw [← h.plen]; omega), ← h.plen] at he
      have i0 : i - z.ps.length = 0 := by
        by_cases e0 : i - z.ps.length = 0
        · exact e0
        · rw [List.getElem?_eq_none (by rw [List.length_singleton]; omega)] at hb
          cases hb
      rw [i0] at hb he
      have hb : x = b := Option.some.inj hb
      have he : c = e := Option.some.inj he
      rw [← hb, ← he]
      exact ⟨dx, hx'⟩
  · refine nd_snoc h.pnd fun hm => ?_
    obtain ⟨i, hi, e⟩ := List.getElem_of_mem hm
    have hi' : i < s.parties.length := by rw [← h.plen]; exact hi
    obtain ⟨dc, hc⟩ := h.par i x _ (by rw [List.getElem?_eq_getElem hi, e]) (List.getElem?_eq_getElem hi')
    rw [hx] at hc
    cases hc
section
variable {P : Program} {w : World} {K : PySem.W.Frag} {mg : Str → Option Value} {base : Heap} {C : Cl}
theorem scCInit : FnScope ["self", "deck", "place", "rank", "berths", "flat"] ["self", "deck", "place", "rank", "berths", "flat"] (defScope sCInit) := ⟨rfl, rfl, rfl, by decide +kernel, rfl, by decide +kernel, by decide +kernel⟩
theorem ok_cInit {f : Addr} {fd : FuncData} (F : Fun K "__init__" "Cabin.__init__" sCInit f fd) (T : Txt K C) : FnOk P w K mg base CX0 1 f fd ["self", "deck", "place", "rank", "berths", "flat"] (spCInit C) := by
  refine F.ok scCInit (fun vs H Q E h => ?_) (fun cdv A outer s H vs Q E hr h => ?_)
  · obtain ⟨x, dx, d, p, r, b, f, rfl, _⟩ := h
    rfl
  obtain ⟨x, dx, d, p, r, b, f, rfl, hf, hx, q⟩ := h
  refine ⟨_, pss_cons (ps_fld (pv 0) (pv 1) rfl) (pss_cons (ps_fld (pv 0) (pv 2) rfl) (pss_cons (ps_fld (pv 0) (pv 3) rfl) (pss_cons (ps_fld (pv 0) (pv 4) rfl) (pss_cons (ps_fld (pv 0) (pv 5) rfl) (pss_one (ps_fld (pv 0) pe_int rfl)))))), ?_⟩
  refine ⟨_, rfl, _, rfl, x, C.C, dx, _, rfl, hx, T.cC, T.c1, (by show 0 < 1000; decide), ?_⟩
  refine ⟨_, rfl, _, rfl, x, C.C, dx, _, rfl, upd_same, T.cC, T.c2, (by show 1 < 1000; decide), ?_⟩
  refine ⟨_, rfl, _, rfl, x, C.C, dx, _, rfl, upd_same, T.cC, T.c3, (by show 2 < 1000; decide), ?_⟩
  refine ⟨_, rfl, _, rfl, x, C.C, dx, _, rfl, upd_same, T.cC, T.c4, (by show 3 < 1000; decide), ?_⟩
  refine ⟨_, rfl, _, rfl, x, C.C, dx, _, rfl, upd_same, T.cC, T.c5, (by show 4 < 1000; decide), ?_⟩
  refine ⟨_, rfl, x, C.C, dx, _, rfl, upd_same, T.cC, T.c6, (by show 5 < 1000; decide), ?_⟩
  refine q _ ?_ fun e o he hn => by rw [upd_ne hn, upd_ne hn, upd_ne hn, upd_ne hn, upd_ne hn, upd_ne hn]; exact he
  rw [upd_same, nV_bit hf]
  rfl
theorem scPInit : FnScope ["self", "many", "rank", "flat"] ["self", "many", "rank", "flat"] (defScope sPInit) := ⟨rfl, rfl, rfl, by decide +kernel, rfl, by decide +kernel, by decide +kernel⟩
theorem ok_pInit {f : Addr} {fd : FuncData} (F : Fun K "__init__" "Party.__init__" sPInit f fd) (T : Txt K C) : FnOk P w K mg base CX0 1 f fd ["self", "many", "rank", "flat"] (spPInit C) := by
  refine F.ok scPInit (fun vs H Q E h => ?_) (fun cdv A outer s H vs Q E hr h => ?_)
  · obtain ⟨x, dx, m, r, f, rfl, _⟩ := h
    rfl
  obtain ⟨x, dx, m, r, f, rfl, hf, hx, q⟩ := h
  refine ⟨_, pss_cons (ps_fld (pv 0) (pv 1) rfl) (pss_cons (ps_fld (pv 0) (pv 2) rfl) (pss_cons (ps_fld (pv 0) (pv 3) rfl) (pss_cons (ps_fld (pv 0) pe_non rfl) (pss_one (ps_fld (pv 0) pe_bl rfl))))), ?_⟩
  refine ⟨_, rfl, _, rfl, x, C.P, dx, _, rfl, hx, T.cP, T.p1, (by show 0 < 1000; decide), ?_⟩
  refine ⟨_, rfl, _, rfl, x, C.P, dx, _, rfl, upd_same, T.cP, T.p2, (by show 1 < 1000; decide), ?_⟩
  refine ⟨_, rfl, _, rfl, x, C.P, dx, _, rfl, upd_same, T.cP, T.p3, (by show 2 < 1000; decide), ?_⟩
  refine ⟨_, rfl, x, C.P, dx, _, rfl, upd_same, T.cP, T.p4, (by show 3 < 1000; decide), ?_⟩
  refine ⟨_, rfl, x, C.P, dx, _, rfl, upd_same, T.cP, T.p5, (by show 4 < 1000; decide), ?_⟩
  refine q _ ?_ fun e o he hn => by rw [upd_ne hn, upd_ne hn, upd_ne hn, upd_ne hn, upd_ne hn]; exact he
  rw [upd_same, nV_bit hf]
  rfl
theorem scAddP : FnScope ["ship", "many", "rank", "flat"] ["ship", "many", "rank", "flat"] (defScope sAddP) := ⟨rfl, rfl, rfl, by decide +kernel, rfl, by decide +kernel, by decide +kernel⟩
theorem ok_addP {f fI : Addr} {fd dI : FuncData} (F : Fun K "add_party" "add_party" sAddP f fd) (T : Txt K C) (Mk_ : Mk K C.P fI) (FI : Fun K "__init__" "Party.__init__" sPInit fI dI) (bI : Binds K dI ["self", "many", "rank", "flat"] []) (mP : mg "Party" = some (.ref C.P)) (ml : mg "len" = none)
    (n22 : Cn mg "NOT_AS_TOLD" (-22)) (n28 : Cn mg "NO_MORE" (-28)) (b3 : Cn mg "BEST_CLASS" 3) (b6 : Cn mg "MOST_BERTHS" 6) (b8 : Cn mg "MOST_PARTIES" 8) : FnOk P w K mg base CX0 3 f fd ["ship", "many", "rank", "flat"] (spChg C 3 mkParty) := by
  have G := ok_pInit (P := P) (w := w) (mg := mg) (base := base) FI T
  refine F.ok scAddP (fun vs H Q E h => ?_) (fun cdv A outer s H vs Q E hr h => ?_)
  · obtain ⟨a, z, s, ns, rfl, hn, _⟩ := h
    obtain ⟨m, r, f, rfl⟩ := len3 hn
    rfl
  obtain ⟨a, z, sh, ns, rfl, hn, hS, hW, q⟩ := h
  obtain ⟨m, r, f, rfl⟩ := len3 hn
  obtain ⟨u22, m22, r22⟩ := n22
  obtain ⟨u28, m28, r28⟩ := n28
  obtain ⟨u3, m3, r3⟩ := b3
  obtain ⟨u6, m6, r6⟩ := b6
  obtain ⟨u8, m8, r8⟩ := b8
  refine ⟨_, pss_cons (ps_if (PW.pt (pw_or (pt_cmpR op_lt (pv 1) pe_int (nomark _)) (pw_or (pt_cmpR op_gt (pv 1) (pe_glob rfl m6 r6) (nomark _)) (pw_or (pt_cmpR op_gt (pv 2) (pe_glob rfl m3 r3) (nomark _)) (pw_or1 (pt_cmpR op_gt (pv 3) pe_int (nomark _))))))) (pss_one (ps_ret (pe_glob rfl m22 r22))) pss_nil)
    (pss_cons (ps_if (pt_cmpR op_eq (pe_callB call_len_seq rfl ml PySem.boot_len (pa_cons (pe_fld (pv 0) rfl) pa_nil)) (pe_glob rfl m8 r8) (nomark _)) (pss_one (ps_ret (pe_glob rfl m28 r28))) pss_nil)
    (pss_cons (ps_expr (pe_bm PySem.F.plainAttrs_list PySem.F.slot_list_append PySem.F.type_list_append mt_append (pe_fld (pv 0) rfl) (pa_cons (pe_make Mk_ G hr rfl mP bI .nil pass0 (pa_cons (pv 1) (pa_cons (pv 2) (pa_cons (pv 3) pa_nil)))) pa_nil)))
    (pss_one (ps_ret (pe_op op_sub (pe_callB call_len_seq rfl ml PySem.boot_len (pa_cons (pe_fld (pv 0) rfl) pa_nil)) pe_int))))), ?_⟩
  have refuse : ∀ v : Int, act ⟨sh, [], []⟩ (.party m r f) = (⟨sh, [], []⟩, Km437.only v) → Q (.int v) H := fun v hv => by
    obtain ⟨ev, es⟩ := chg_ref hv
    have := q H z (by show ShipAt C H a z (chgS sh (.party m r f)); rw [es]; exact hS) (Frame.refl (Same.refl H))
    have e2 : chgV sh (mkParty [m, r, f]) = v := ev
    rw [e2] at this
    exact this
  have bad : (m = 0 ∨ 6 < m ∨ 3 < r ∨ 1 < f) → Q (.int (-22)) H := fun c => refuse _ (by unfold act; dsimp only; rw [if_pos c])
  refine ⟨_, rfl, _, _, rfl, rfl, _, rfl, ?_⟩
  by_cases h1 : m = 0
  · exact yes (decide_eq_true (by show ((m : Nat) : Int) < 1; omega)) (yes rfl (bad (.inl h1)))
  refine no (decide_eq_false (by show ¬ ((m : Nat) : Int) < 1; omega)) ⟨_, rfl, _, _, rfl, rfl, _, rfl, ?_⟩
  by_cases h2 : 6 < m
  · exact yes (decide_eq_true (by show (6 : Int) < ((m : Nat) : Int); omega)) (yes rfl (bad (.inr (.inl h2))))
  refine no (decide_eq_false (by show ¬ (6 : Int) < ((m : Nat) : Int); omega)) ⟨_, rfl, _, _, rfl, rfl, _, rfl, ?_⟩
  by_cases h3 : 3 < r
  · exact yes (decide_eq_true (by show (3 : Int) < ((r : Nat) : Int); omega)) (yes rfl (bad (.inr (.inr (.inl h3)))))
  refine no (decide_eq_false (by show ¬ (3 : Int) < ((r : Nat) : Int); omega)) ⟨_, rfl, _, _, rfl, rfl, _, rfl, ?_⟩
  by_cases h4 : 1 < f
  · exact yes (decide_eq_true (by show (1 : Int) < ((f : Nat) : Int); omega)) (bad (.inr (.inr (.inr h4))))
  refine no (decide_eq_false (by show ¬ (1 : Int) < ((f : Nat) : Int); omega)) ?_
  have c1 : ¬ (m = 0 ∨ 6 < m ∨ 3 < r ∨ 1 < f) := by omega
  refine ⟨_, rfl, a, C.S, z.dx, _, _, rfl, hS.ship, T.cS, T.s2, ship_parties _ _, z.lp, _, rfl, .inl (SqL.of hS.lp), rfl, _, rfl, ?_⟩
  have hlen : (z.ps.map V.ref).length = sh.parties.length := by rw [List.length_map, hS.plen]
  rw [dec_int, hlen]
  have h8 := hW.par
  by_cases h5 : sh.parties.length = 8
  · have c2 : Km437.PARTIES ≤ sh.parties.length := by show 8 ≤ _; omega
    exact yes (by rw [h5]; rfl) (refuse _ (by unfold act; dsimp only; rw [if_neg c1, if_pos c2]))
  have c2 : ¬ Km437.PARTIES ≤ sh.parties.length := by
    show ¬ 8 ≤ _
    omega
  refine no (beq_eq_false_iff_ne.mpr (by omega)) ?_
  refine ⟨_, rfl, a, C.S, z.dx, _, _, rfl, hS.ship, T.cS, T.s2, ship_parties _ _, .inl ⟨rfl, _, SqL.of hS.lp⟩, _, rfl, _, rfl, _, rfl, fun x dx nx ndx nxd => ?_⟩
  refine ⟨x, dx, m, r, f, rfl, by omega, upd_same, fun H2 hx2 k2 => ⟨rfl, ?_⟩⟩
  have keep : ∀ b o, H b = some o → H2 b = some o := fun b o e => k2 b o (by rw [upd_ne (ne_of_none e nx), upd_ne (ne_of_none e ndx)]; exact e) (ne_of_none e nx)
  refine ⟨z.lp, _, _, rfl, rfl, keep _ _ hS.lp, by rw [hlen]; exact small1000 (by omega), ?_⟩
  have nlx : x ≠ z.lp := Ne.symm (ne_of_none hS.lp nx)
  have hS2 : ShipAt C (upd H2 z.lp (.lst (z.ps.map V.ref ++ [V.ref x]))) a { z with ps := z.ps ++ [x] } { sh with parties := sh.parties ++ [⟨m, r, f == 1, none, false⟩] } :=
    hS.addPar nx (dx := dx) (by rw [upd_ne nlx]; exact hx2) (by rw [upd_same, List.map_append]; rfl) fun b o e n => by rw [upd_ne n]; exact keep b o e
  refine ⟨_, rfl, a, C.S, z.dx, _, _, rfl, hS2.ship, T.cS, T.s2, ship_parties _ _, z.lp, _, rfl, .inl (SqL.of upd_same), _, _, rfl, rfl, ?_⟩
  obtain ⟨eV, eS⟩ := chg_did (s := sh) (x := .party m r f) (t := { sh with parties := sh.parties ++ [⟨m, r, f == 1, none, false⟩] }) (v := ((sh.parties.length : Nat) : Int)) (by unfold act; dsimp only; rw [if_neg c1, if_neg c2])
  have fin := q _ _ (by show ShipAt C _ a _ (chgS sh (.party m r f)); rw [eS]; exact hS2) ⟨fun d o e n => by rw [upd_ne (fun x => n (by rw [x]; exact foot_lp))]; exact keep d o e, fun d hd => ?_⟩
  · have e2 : chgV sh (mkParty [m, r, f]) = _ := eV
    rw [e2] at fin
    have e3 : (((z.ps.map V.ref ++ [V.ref x]).length : Nat) : Int) - 1 = ((sh.parties.length : Nat) : Int) := by
      rw [List.length_append, hlen, List.length_singleton]
      omega
    show Q (V.int ((((z.ps.map V.ref ++ [V.ref x]).length : Nat) : Int) - 1)) _
    rw [e3]
    exact fin
  · rcases List.mem_cons.mp hd with e | hd
    · exact .inl (by rw [e]; exact foot_lc)
    rcases List.mem_cons.mp hd with e | hd
    · exact .inl (by rw [e]; exact foot_lp)
    rcases List.mem_append.mp hd with hd | hd
    · exact .inl (foot_cs hd)
    have hd : d ∈ z.ps ++ [x] := hd
    rcases List.mem_append.mp hd with hd | hd
    · exact .inl (foot_ps hd)
    · rw [List.mem_singleton.mp hd]
      exact .inr nx
end
end Cg

end
section
set_option Elab.async false
set_option linter.all false
set_option maxRecDepth 100000
set_option maxHeartbeats 4000000
namespace Cg
open PySem PySem.Spec PyProof.Rows L2
open Km437 (Cabin Party Ship Desk Call act)
section
variable {P : Program} {w : World} {K : PySem.W.Frag} {mg : Str → Option Value} {base : Heap} {C : Cl}
theorem scAddC : FnScope ["ship", "deck", "place", "rank", "berths", "flat"] ["ship", "deck", "place", "rank", "berths", "flat"] (defScope sAddC) := ⟨rfl, rfl, rfl, by decide +kernel, rfl, by decide +kernel, by decide +kernel⟩
theorem ok_addC {f fI : Addr} {fd dI : FuncData} {fa : Nat → Addr} {fds : Nat → FuncData} (F : Fun K "add_cabin" "add_cabin" sAddC f fd) (T : Txt K C) (M : Ms P w K mg base C fa fds) (Mk_ : Mk K C.C fI) (FI : Fun K "__init__" "Cabin.__init__" sCInit fI dI) (bI : Binds K dI ["self", "deck", "place", "rank", "berths", "flat"] []) (mP : mg "Cabin" = some (.ref C.C)) (ml : mg "len" = none)
    (n22 : Cn mg "NOT_AS_TOLD" (-22)) (n28 : Cn mg "NO_MORE" (-28)) (b20 : Cn mg "LAST_DECK" 20) (b500 : Cn mg "LAST_PLACE" 500) (b3 : Cn mg "BEST_CLASS" 3) (b6 : Cn mg "MOST_BERTHS" 6) (b12 : Cn mg "MOST_CABINS" 12) : FnOk P w K mg base CX0 5 f fd ["ship", "deck", "place", "rank", "berths", "flat"] (spChg C 5 mkCabin) := by
  have G := ok_cInit (P := P) (w := w) (mg := mg) (base := base) FI T
  refine F.ok scAddC (fun vs H Q E h => ?_) (fun cdv A outer s H vs Q E hr h => ?_)
  · obtain ⟨a, z, s, ns, rfl, hn, _⟩ := h
    obtain ⟨d, p, r, b, f, rfl⟩ := len5 hn
    rfl
  obtain ⟨a, z, sh, ns, rfl, hn, hS, hW, q⟩ := h
  obtain ⟨d, p, r, b, f, rfl⟩ := len5 hn
  obtain ⟨u22, m22, r22⟩ := n22
  obtain ⟨u28, m28, r28⟩ := n28
  obtain ⟨u20, m20, r20⟩ := b20
  obtain ⟨u500, m500, r500⟩ := b500
  obtain ⟨u3, m3, r3⟩ := b3
  obtain ⟨u6, m6, r6⟩ := b6
  obtain ⟨u12, m12, r12⟩ := b12
  refine ⟨_, pss_cons (ps_if (PW.pt (pw_or (pt_cmpR op_gt (pv 1) (pe_glob rfl m20 r20) (nomark _)) (pw_or (pt_cmpR op_gt (pv 2) (pe_glob rfl m500 r500) (nomark _)) (pw_or1 (pt_cmpR op_gt (pv 3) (pe_glob rfl m3 r3) (nomark _)))))) (pss_one (ps_ret (pe_glob rfl m22 r22))) pss_nil)
    (pss_cons (ps_if (PW.pt (pw_or (pt_cmpR op_lt (pv 4) pe_int (nomark _)) (pw_or (pt_cmpR op_gt (pv 4) (pe_glob rfl m6 r6) (nomark _)) (pw_or1 (pt_cmpR op_gt (pv 5) pe_int (nomark _)))))) (pss_one (ps_ret (pe_glob rfl m22 r22))) pss_nil)
    (pss_cons (ps_if (pt_val (pe_meth (pv 0) T.cS M.isAt.mt M.isAt.ok hr M.isAt.b .nil pass0 (pa_cons (pv 1) (pa_cons (pv 2) pa_nil)))) (pss_one (ps_ret (pe_glob rfl m22 r22))) pss_nil)
    (pss_cons (ps_if (pt_cmpR op_eq (pe_callB call_len_seq rfl ml PySem.boot_len (pa_cons (pe_fld (pv 0) rfl) pa_nil)) (pe_glob rfl m12 r12) (nomark _)) (pss_one (ps_ret (pe_glob rfl m28 r28))) pss_nil)
    (pss_cons (ps_expr (pe_bm PySem.F.plainAttrs_list PySem.F.slot_list_append PySem.F.type_list_append mt_append (pe_fld (pv 0) rfl) (pa_cons (pe_make Mk_ G (hr.mono (by decide)) rfl mP bI .nil pass0 (pa_cons (pv 1) (pa_cons (pv 2) (pa_cons (pv 3) (pa_cons (pv 4) (pa_cons (pv 5) pa_nil)))))) pa_nil)))
    (pss_one (ps_ret (pe_op op_sub (pe_callB call_len_seq rfl ml PySem.boot_len (pa_cons (pe_fld (pv 0) rfl) pa_nil)) pe_int))))))), ?_⟩
  have refuse : ∀ v : Int, act ⟨sh, [], []⟩ (.cabin d p r b f) = (⟨sh, [], []⟩, Km437.only v) → Q (.int v) H := fun v hv => by
    obtain ⟨ev, es⟩ := chg_ref hv
    have := q H z (by show ShipAt C H a z (chgS sh (.cabin d p r b f)); rw [es]; exact hS) (Frame.refl (Same.refl H))
    have e2 : chgV sh (mkCabin [d, p, r, b, f]) = v := ev
    rw [e2] at this
    exact this
  have bad : (20 < d ∨ 500 < p ∨ 3 < r ∨ b = 0 ∨ 6 < b ∨ 1 < f ∨ (sh.cabins.any fun c => c.deck == d && c.place == p) = true) → Q (.int (-22)) H := fun c => refuse _ (by unfold act; dsimp only; rw [if_pos c])
  refine ⟨_, rfl, _, _, rfl, rfl, _, rfl, ?_⟩
  by_cases h1 : 20 < d
  · exact yes (decide_eq_true (by show (20 : Int) < ((d : Nat) : Int); omega)) (yes rfl (bad (.inl h1)))
  refine no (decide_eq_false (by show ¬ (20 : Int) < ((d : Nat) : Int); omega)) ⟨_, rfl, _, _, rfl, rfl, _, rfl, ?_⟩
  by_cases h2 : 500 < p
  · exact yes (decide_eq_true (by show (500 : Int) < ((p : Nat) : Int); omega)) (yes rfl (bad (.inr (.inl h2))))
  refine no (decide_eq_false (by show ¬ (500 : Int) < ((p : Nat) : Int); omega)) ⟨_, rfl, _, _, rfl, rfl, _, rfl, ?_⟩
  by_cases h3 : 3 < r
  · exact yes (decide_eq_true (by show (3 : Int) < ((r : Nat) : Int); omega)) (bad (.inr (.inr (.inl h3))))
  refine no (decide_eq_false (by show ¬ (3 : Int) < ((r : Nat) : Int); omega)) ⟨_, rfl, _, _, rfl, rfl, _, rfl, ?_⟩
  by_cases h4 : b = 0
  · exact yes (decide_eq_true (by show ((b : Nat) : Int) < 1; omega)) (yes rfl (bad (.inr (.inr (.inr (.inl h4))))))
  refine no (decide_eq_false (by show ¬ ((b : Nat) : Int) < 1; omega)) ⟨_, rfl, _, _, rfl, rfl, _, rfl, ?_⟩
  by_cases h5 : 6 < b
  · exact yes (decide_eq_true (by show (6 : Int) < ((b : Nat) : Int); omega)) (yes rfl (bad (.inr (.inr (.inr (.inr (.inl h5)))))))
  refine no (decide_eq_false (by show ¬ (6 : Int) < ((b : Nat) : Int); omega)) ⟨_, rfl, _, _, rfl, rfl, _, rfl, ?_⟩
  by_cases h6 : 1 < f
  · exact yes (decide_eq_true (by show (1 : Int) < ((f : Nat) : Int); omega)) (bad (.inr (.inr (.inr (.inr (.inr (.inl h6)))))))
  refine no (decide_eq_false (by show ¬ (1 : Int) < ((f : Nat) : Int); omega)) ?_
  refine ⟨_, rfl, a, z.dx, _, rfl, hS.ship, ship_no (by decide) (by decide), _, rfl, _, rfl, a, z, sh, d, p, rfl, hS, _, rfl, ?_⟩
  cases h7 : (sh.cabins.any fun c => c.deck == d && c.place == p) with
  | true => exact yes rfl (bad (.inr (.inr (.inr (.inr (.inr (.inr h7)))))))
  | false =>
  refine no rfl ?_
  have c1 : ¬ (20 < d ∨ 500 < p ∨ 3 < r ∨ b = 0 ∨ 6 < b ∨ 1 < f ∨ (sh.cabins.any fun c => c.deck == d && c.place == p) = true) := by
    rw [h7]
    simp
    omega
  refine ⟨_, rfl, a, C.S, z.dx, _, _, rfl, hS.ship, T.cS, T.s1, ship_cabins _ _, z.lc, _, rfl, .inl (SqL.of hS.lc), rfl, _, rfl, ?_⟩
  have hlen : (z.cs.map V.ref).length = sh.cabins.length := by rw [List.length_map, hS.clen]
  rw [dec_int, hlen]
  have h8 := hW.cab
  by_cases h9 : sh.cabins.length = 12
  · have c2 : Km437.CABINS ≤ sh.cabins.length := by show 12 ≤ _; omega
    exact yes (by rw [h9]; rfl) (refuse _ (by unfold act; dsimp only; rw [if_neg c1, if_pos c2]))
  have c2 : ¬ Km437.CABINS ≤ sh.cabins.length := by
    show ¬ 12 ≤ _
    omega
  refine no (beq_eq_false_iff_ne.mpr (by omega)) ?_
  refine ⟨_, rfl, a, C.S, z.dx, _, _, rfl, hS.ship, T.cS, T.s1, ship_cabins _ _, .inl ⟨rfl, _, SqL.of hS.lc⟩, _, rfl, _, rfl, _, rfl, _, rfl, _, rfl, fun x dx nx ndx nxd => ?_⟩
  refine ⟨x, dx, d, p, r, b, f, rfl, by omega, upd_same, fun H2 hx2 k2 => ⟨rfl, ?_⟩⟩
  have keep : ∀ b o, H b = some o → H2 b = some o := fun b o e => k2 b o (by rw [upd_ne (ne_of_none e nx), upd_ne (ne_of_none e ndx)]; exact e) (ne_of_none e nx)
  refine ⟨z.lc, _, _, rfl, rfl, keep _ _ hS.lc, by rw [hlen]; exact small1000 (by omega), ?_⟩
  have nlx : x ≠ z.lc := Ne.symm (ne_of_none hS.lc nx)
  have hS2 : ShipAt C (upd H2 z.lc (.lst (z.cs.map V.ref ++ [V.ref x]))) a { z with cs := z.cs ++ [x] } { sh with cabins := sh.cabins ++ [⟨d, p, r, b, f == 1, false⟩] } :=
    hS.addCab nx (dx := dx) (by rw [upd_ne nlx]; exact hx2) (by rw [upd_same, List.map_append]; rfl) fun b o e n => by rw [upd_ne n]; exact keep b o e
  refine ⟨_, rfl, a, C.S, z.dx, _, _, rfl, hS2.ship, T.cS, T.s1, ship_cabins _ _, z.lc, _, rfl, .inl (SqL.of upd_same), _, _, rfl, rfl, ?_⟩
  obtain ⟨eV, eS⟩ := chg_did (s := sh) (x := .cabin d p r b f) (t := { sh with cabins := sh.cabins ++ [⟨d, p, r, b, f == 1, false⟩] }) (v := ((sh.cabins.length : Nat) : Int)) (by unfold act; dsimp only; rw [if_neg c1, if_neg c2])
  have fin := q _ _ (by show ShipAt C _ a _ (chgS sh (.cabin d p r b f)); rw [eS]; exact hS2) ⟨fun d o e n => by rw [upd_ne (fun x => n (by rw [x]; exact foot_lc))]; exact keep d o e, fun d hd => ?_⟩
  · have e2 : chgV sh (mkCabin [d, p, r, b, f]) = _ := eV
    rw [e2] at fin
    have e3 : (((z.cs.map V.ref ++ [V.ref x]).length : Nat) : Int) - 1 = ((sh.cabins.length : Nat) : Int) := by
      rw [List.length_append, hlen, List.length_singleton]
      omega
    show Q (V.int ((((z.cs.map V.ref ++ [V.ref x]).length : Nat) : Int) - 1)) _
    rw [e3]
    exact fin
  · rcases List.mem_cons.mp hd with e | hd
    · exact .inl (by rw [e]; exact foot_lc)
    rcases List.mem_cons.mp hd with e | hd
    · exact .inl (by rw [e]; exact foot_lp)
    rcases List.mem_append.mp hd with hd | hd
    · have hd : d ∈ z.cs ++ [x] := hd
      rcases List.mem_append.mp hd with hd | hd
      · exact .inl (foot_cs hd)
      · rw [List.mem_singleton.mp hd]
        exact .inr nx
    · exact .inl (foot_ps hd)
theorem scSwap : FnScope ["ship", "p", "q", "one", "other", "had"] ["ship", "p", "q"] (defScope sSwap) := ⟨rfl, rfl, rfl, by decide +kernel, rfl, by decide +kernel, by decide +kernel⟩
theorem ok_swap {f : Addr} {fd : FuncData} {fa : Nat → Addr} {fds : Nat → FuncData} (F : Fun K "swap_parties" "swap_parties" sSwap f fd) (T : Txt K C) (M : Ms P w K mg base C fa fds) (n2 : Cn mg "NOT_THERE" (-2)) (n22 : Cn mg "NOT_AS_TOLD" (-22)) (n6 : Cn mg "NOBODY" (-6)) (n33 : Cn mg "DOES_NOT_DO" (-33)) :
    FnOk P w K mg base CX0 5 f fd ["ship", "p", "q"] (spChg C 2 mkSwap) := by
  refine F.ok scSwap (fun vs H Q E h => ?_) (fun cdv A outer s H vs Q E hr h => ?_)
  · obtain ⟨a, z, s, ns, rfl, hn, _⟩ := h
    obtain ⟨p, k, rfl⟩ := len2 hn
    rfl
  obtain ⟨a, z, sh, ns, rfl, hn, hS, hW, q⟩ := h
  obtain ⟨p1, p2, rfl⟩ := len2 hn
  obtain ⟨u2, m2, r2⟩ := n2
  obtain ⟨u22, m22, r22⟩ := n22
  obtain ⟨u6, m6, r6⟩ := n6
  obtain ⟨u33, m33, r33⟩ := n33
  refine ⟨_, pss_cons (ps_if (PW.pt (pw_or (pt_not (pt_val (pe_meth (pv 0) T.cS M.hasP.mt M.hasP.ok hr M.hasP.b .nil pass0 (pa_cons (pv 1) pa_nil)))) (pw_or1 (pt_not (pt_val (pe_meth (pv 0) T.cS M.hasP.mt M.hasP.ok hr M.hasP.b .nil pass0 (pa_cons (pv 2) pa_nil))))))) (pss_one (ps_ret (pe_glob rfl m2 r2))) pss_nil)
    (pss_cons (ps_if (pt_cmpR op_eq (pv 1) (pv 2) (nomark _)) (pss_one (ps_ret (pe_glob rfl m22 r22))) pss_nil)
    (pss_cons (ps_set (i := 3) scSwap.nd rfl (Or.inl rfl) (pe_ix ix_list (pe_fld (pv 0) rfl) (pv 1) (fun _ _ => rfl)))
    (pss_cons (ps_set (i := 4) scSwap.nd rfl (Or.inl rfl) (pe_ix ix_list (pe_fld (pv 0) rfl) (pv 2) (fun _ _ => rfl)))
    (pss_cons (ps_if (PW.pt (pw_or (pt_cmp (pc_isN (pe_fld (pv 3) rfl))) (pw_or1 (pt_cmp (pc_isN (pe_fld (pv 4) rfl)))))) (pss_one (ps_ret (pe_glob rfl m6 r6))) pss_nil)
    (pss_cons (ps_if (PW.pt (pw_or (pt_not (pt_val (pe_meth (pv 0) T.cS M.does.mt M.does.ok hr M.does.b .nil pass0 (pa_cons (pv 1) (pa_cons (pe_fld (pv 4) rfl) pa_nil))))) (pw_or1 (pt_not (pt_val (pe_meth (pv 0) T.cS M.does.mt M.does.ok hr M.does.b .nil pass0 (pa_cons (pv 2) (pa_cons (pe_fld (pv 3) rfl) pa_nil)))))))) (pss_one (ps_ret (pe_glob rfl m33 r33))) pss_nil)
    (pss_cons (ps_set (i := 5) scSwap.nd rfl (Or.inl rfl) (pe_fld (pv 3) rfl))
    (pss_cons (ps_fld (pv 3) (pe_fld (pv 4) rfl) rfl) (pss_cons (ps_fld (pv 4) (pv 5) rfl) (pss_one (ps_ret pe_int)))))))))), ?_⟩
  have refuse : ∀ v : Int, act ⟨sh, [], []⟩ (.swap p1 p2) = (⟨sh, [], []⟩, Km437.only v) → Q (.int v) H := fun v hv => by
    obtain ⟨ev, es⟩ := chg_ref hv
    have := q H z (by show ShipAt C H a z (chgS sh (.swap p1 p2)); rw [es]; exact hS) (Frame.refl (Same.refl H))
    have e2 : chgV sh (mkSwap [p1, p2]) = v := ev
    rw [e2] at this
    exact this
  refine ⟨_, rfl, a, z.dx, _, rfl, hS.ship, ship_no (by decide) (by decide), _, rfl, a, z, sh, p1, rfl, hS, _, rfl, ?_⟩
  cases hp1 : sh.is p1 with
  | false =>
    have c0 : sh.is p1 = false ∨ sh.is p2 = false := .inl hp1
    exact yes rfl (yes rfl (refuse _ (by unfold act; dsimp only; rw [if_pos c0])))
  | true =>
    refine no rfl ⟨_, rfl, a, z.dx, _, rfl, hS.ship, ship_no (by decide) (by decide), _, rfl, a, z, sh, p2, rfl, hS, _, rfl, ?_⟩
    cases hp2 : sh.is p2 with
    | false =>
      have c0 : sh.is p1 = false ∨ sh.is p2 = false := .inr hp2
      exact yes rfl (refuse _ (by unfold act; dsimp only; rw [if_pos c0]))
    | true =>
      have c1 : ¬ (sh.is p1 = false ∨ sh.is p2 = false) := by rw [hp1, hp2]; simp
      refine no rfl ⟨_, rfl, _, rfl, rfl, _, rfl, ?_⟩
      rw [nV_eq]
      by_cases h12 : p1 = p2
      · exact yes (beq_iff_eq.mpr h12) (refuse _ (by unfold act; dsimp only; rw [if_neg c1, if_pos h12]))
      refine no (beq_eq_false_iff_ne.mpr h12) ?_
      obtain ⟨b1, d1, hb1, hc1⟩ := hS.parAt (is_lt hp1)
      obtain ⟨b2, d2, hb2, hc2⟩ := hS.parAt (is_lt hp2)
      have nb : b2 ≠ b1 := fun e => h12 (nd_ix hS.pnd hb1 (by rw [← e]; exact hb2))
      refine ⟨_, rfl, a, C.S, z.dx, _, _, rfl, hS.ship, T.cS, T.s2, ship_parties _ _, _, rfl, z.lp, _, _, _, rfl, rfl, SqL.of hS.lp, list_at hb1, ?_⟩
      refine ⟨_, rfl, a, C.S, z.dx, _, _, rfl, hS.ship, T.cS, T.s2, ship_parties _ _, _, rfl, z.lp, _, _, _, rfl, rfl, SqL.of hS.lp, list_at hb2, ?_⟩
      refine ⟨_, rfl, b1, C.P, d1, _, _, rfl, hc1, T.cP, T.p4, par_cabin _, _, rfl, ?_⟩
      rw [vO_non]
      cases e1 : (sh.party p1).cabin with
      | none => exact yes rfl (yes rfl (refuse _ (by unfold act; dsimp only; rw [if_neg c1, if_neg h12, e1])))
      | some j =>
        refine no rfl ⟨_, rfl, b2, C.P, d2, _, _, rfl, hc2, T.cP, T.p4, par_cabin _, _, rfl, ?_⟩
        rw [vO_non]
        cases e2 : (sh.party p2).cabin with
        | none => exact yes rfl (refuse _ (by unfold act; dsimp only; rw [if_neg c1, if_neg h12, e1, e2]))
        | some k =>
          have hj := hW.has p1 j e1
          have hk := hW.has p2 k e2
          refine no rfl ⟨_, rfl, a, z.dx, _, rfl, hS.ship, ship_no (by decide) (by decide), _, rfl, _, rfl, b2, C.P, d2, _, _, rfl, hc2, T.cP, T.p4, par_cabin _, a, z, sh, p1, k, by rw [e2]; rfl, hS, is_lt hp1, hk, _, rfl, ?_⟩
          cases f1 : Km437.does (sh.cabin k) (sh.party p1) with
          | false =>
            have c3 : Km437.does (sh.cabin k) (sh.party p1) = false ∨ Km437.does (sh.cabin j) (sh.party p2) = false := .inl f1
            exact yes rfl (yes rfl (refuse _ (by unfold act; dsimp only; rw [if_neg c1, if_neg h12, e1, e2]; dsimp only; rw [if_pos c3])))
          | true =>
            refine no rfl ⟨_, rfl, a, z.dx, _, rfl, hS.ship, ship_no (by decide) (by decide), _, rfl, _, rfl, b1, C.P, d1, _, _, rfl, hc1, T.cP, T.p4, par_cabin _, a, z, sh, p2, j, by rw [e1]; rfl, hS, is_lt hp2, hj, _, rfl, ?_⟩
            cases f2 : Km437.does (sh.cabin j) (sh.party p2) with
            | false =>
              have c3 : Km437.does (sh.cabin k) (sh.party p1) = false ∨ Km437.does (sh.cabin j) (sh.party p2) = false := .inr f2
              exact yes rfl (refuse _ (by unfold act; dsimp only; rw [if_neg c1, if_neg h12, e1, e2]; dsimp only; rw [if_pos c3]))
            | true =>
              have c3 : ¬ (Km437.does (sh.cabin k) (sh.party p1) = false ∨ Km437.does (sh.cabin j) (sh.party p2) = false) := by rw [f1, f2]; simp
              refine no rfl ⟨_, rfl, b1, C.P, d1, _, _, rfl, hc1, T.cP, T.p4, par_cabin _, ?_⟩
              refine ⟨_, rfl, b2, C.P, d2, _, _, rfl, hc2, T.cP, T.p4, par_cabin _, _, rfl, b1, C.P, d1, _, rfl, hc1, T.cP, T.p4, (by show 5 < 1000; decide), ?_⟩
              refine ⟨_, rfl, _, rfl, b2, C.P, d2, _, rfl, by rw [upd_ne nb]; exact hc2, T.cP, T.p4, (by show 5 < 1000; decide), ?_⟩
              rw [e1, e2, put_cabin, put_cabin]
              have keep1 : ∀ d o, H d = some o → d ≠ b1 → (upd H b1 (.ins C.P d1 (parF { sh.party p1 with cabin := some k }))) d = some o := fun d o e n => by rw [upd_ne n]; exact e
              have hS1 : ShipAt C (upd H b1 (.ins C.P d1 (parF { sh.party p1 with cabin := some k }))) a z (sh.put p1 (some k)) := hS.setPar (fs := []) hb1 hc1 (p' := { sh.party p1 with cabin := some k }) (dx' := d1) upd_same keep1
              have ep : (sh.put p1 (some k)).party p2 = sh.party p2 := party_put _ h12
              have hS2 : ShipAt C (upd (upd H b1 (.ins C.P d1 (parF { sh.party p1 with cabin := some k }))) b2 (.ins C.P d2 (parF { sh.party p2 with cabin := some j }))) a z ((sh.put p1 (some k)).put p2 (some j)) := by
                have := hS1.setPar (fs := []) (i := p2) (b := b2) (dx := d2) (dx' := d2) (p' := { (sh.put p1 (some k)).party p2 with cabin := some j }) (H' := upd (upd H b1 (.ins C.P d1 (parF { sh.party p1 with cabin := some k }))) b2 (.ins C.P d2 (parF { sh.party p2 with cabin := some j }))) hb2 (by rw [ep, upd_ne nb]; exact hc2) (by rw [upd_same, ep]) (fun d o e n => by rw [upd_ne n]; exact e)
                exact this
              obtain ⟨eV, eS⟩ := chg_did (s := sh) (x := .swap p1 p2) (t := (sh.put p1 (some k)).put p2 (some j)) (v := 0) (by unfold act; dsimp only; rw [if_neg c1, if_neg h12, e1, e2]; dsimp only; rw [if_neg c3])
              have fin := q _ z (by show ShipAt C _ a z (chgS sh (.swap p1 p2)); rw [eS]; exact hS2) ⟨fun d o e n => by rw [upd_ne (fun x => n (by rw [x]; exact foot_ps? hb2)), upd_ne (fun x => n (by rw [x]; exact foot_ps? hb1))]; exact e, fun d hd => .inl hd⟩
              have ev2 : chgV sh (mkSwap [p1, p2]) = 0 := eV
              rw [ev2] at fin
              exact fin
end
end Cg

end
section
set_option Elab.async false
set_option linter.all false
set_option maxRecDepth 100000
set_option maxHeartbeats 4000000
namespace Cg
open PySem PySem.Spec PyProof.Rows L2
open Km437 (Cabin Party Ship Desk Call act)
abbrev sTake : Stmt := top 43
/-- over the pairs of a locked dict -/
theorem for_items {d : Addr} {od : Obj} {kvs : List (Key × V)} {g : TG} {tb : TS} {D : Ends} {σ : L2.St} {H : Hp} (Pv : Nat → L2.St → Hp → Prop) (h0 : Pv 0 σ H) (hl : ∀ i σ H, i ≤ kvs.length → Pv i σ H → H d = some (.frz od (.dK kvs)))
    (hs : ∀ i k v σ H T, kvs[i]? = some (k, v) → H T = none → Pv i σ H → g (.ref T) σ (upd H T (.tup [kV k, v])) fun σ2 H2 => tb { D with nx := Pv (i + 1), ct := Pv (i + 1), bk := D.nx } σ2 H2) (hd : ∀ σ H, Pv kvs.length σ H → D.nx σ H) :
    ∃ W : Nat → Nat → L2.St → Hp → Prop, (∃ m, W 0 m σ H) ∧ ∀ i m σ H, W i m σ H →
      ((Iti d od kvs).stop i H ∧ D.nx σ H) ∨ ((Iti d od kvs).go i H ∧ ∃ N : L2.St → Hp → Prop, (∀ σ' H', N σ' H' → ∃ m', m' < m ∧ W (i + 1) m' σ' H') ∧ ∀ x H', (Iti d od kvs).yld i H x H' → g x σ H' fun σ2 H2 => tb { D with nx := N, ct := N, bk := D.nx } σ2 H2) := by
  refine ⟨fun i m σ H => m = kvs.length - i ∧ i ≤ kvs.length ∧ Pv i σ H, ⟨kvs.length, by simp, Nat.zero_le _, h0⟩, ?_⟩
  rintro i m σ H ⟨rfl, hi, p⟩
  have q := hl i σ H hi p
  by_cases hlt : i < kvs.length
  · refine .inr ⟨⟨q, hlt⟩, Pv (i + 1), fun σ' H' p' => ⟨kvs.length - (i + 1), by omega, rfl, hlt, p'⟩, fun v H' y => ?_⟩
    obtain ⟨T, k, v, e, rfl, hT, rfl⟩ := y
    exact hs i k v σ H T e hT p
  · have e : i = kvs.length := by omega
    subst e
    exact .inl ⟨⟨q, Nat.le_refl _⟩, hd σ H p⟩
theorem plan_mem {s : Ship} : ∀ (ps ks : List Nat) (x : Nat × Nat), x ∈ s.plan ps ks → x.1 ∈ ps
  | [], _, _, h => by cases h
  | p :: l, ks, x, h => by
    have h : x ∈ (match s.pick p l ks (s.housed (p :: l) ks) with
      | none => s.plan l ks
      | some k => (p, k) :: s.plan l (ks.filter fun y => y != k)) := h
    cases e : s.pick p l ks (s.housed (p :: l) ks) with
    | none =>
      rw [e] at h
      exact List.mem_cons_of_mem _ (plan_mem l ks x h)
    | some k =>
      rw [e] at h
      rcases List.mem_cons.mp h with z | z
      · rw [z]
        exact List.mem_cons_self
      · exact List.mem_cons_of_mem _ (plan_mem l _ x z)
theorem plan_len {s : Ship} : ∀ (ps ks : List Nat), (s.plan ps ks).length ≤ ps.length
  | [], _ => Nat.le_refl _
  | p :: l, ks => by
    show (match s.pick p l ks (s.housed (p :: l) ks) with
      | none => s.plan l ks
      | some k => (p, k) :: s.plan l (ks.filter fun y => y != k)).length ≤ l.length + 1
    cases s.pick p l ks (s.housed (p :: l) ks) with
    | none => exact Nat.le_succ_of_le (plan_len l ks)
    | some k => exact Nat.succ_le_succ (plan_len l _)
def putAll (s : Ship) (l : List (Nat × Nat)) : Ship := l.foldl (fun s x => s.put x.1 (some x.2)) s
theorem putAll_par : ∀ (l : List (Nat × Nat)) (s : Ship), (putAll s l).parties.length = s.parties.length
  | [], _ => rfl
  | x :: l, s => by
    show (putAll (s.put x.1 (some x.2)) l).parties.length = _
    rw [putAll_par l]
    exact List.length_set ..
theorem putAll_snoc {s : Ship} {l : List (Nat × Nat)} {i : Nat} {x : Nat × Nat} (h : l[i]? = some x) : putAll s (l.take (i + 1)) = (putAll s (l.take i)).put x.1 (some x.2) := by
  unfold putAll
  rw [take_snoc h, List.foldl_append]
  rfl
def spTake (C : Cl) (Pt : Addr) : Sp := fun vs H Q _ => ∃ (a : Addr) (z : Sh) (s : Ship), vs = [.ref a] ∧ ShipAt C H a z s ∧ Wf s ∧ Tab Pt H ∧
  ∀ H' : Hp, ShipAt C H' a z (chgS s .take) → (∀ b o, H b = some o → b ∉ z.foot → b ≠ Pt → H' b = some o) → Tab Pt H' → Q (.int (chgV s .take)) H'
section
variable {P : Program} {w : World} {K : PySem.W.Frag} {mg : Str → Option Value} {base : Heap} {C : Cl}
theorem foot_at {H : Hp} {a : Addr} {z : Sh} {s : Ship} (h : ShipAt C H a z s) {b : Addr} (hb : b ∈ z.foot) : ∃ o, H b = some o ∧ (∀ ps, o ≠ .tbl ps) ∧ (∀ kvs, o ≠ .dK kvs) ∧ ∀ φ, o ≠ .ext φ := by
  rcases List.mem_cons.mp hb with e | hb
  · exact ⟨_, by rw [e]; exact h.lc, (by intro _ e; cases e), (by intro _ e; cases e), (by intro _ e; cases e)⟩
  rcases List.mem_cons.mp hb with e | hb
  · exact ⟨_, by rw [e]; exact h.lp, (by intro _ e; cases e), (by intro _ e; cases e), (by intro _ e; cases e)⟩
  rcases List.mem_append.mp hb with hb | hb
  · obtain ⟨i, hi, e⟩ := List.getElem_of_mem hb
    have hi' : i < s.cabins.length := by rw [← h.clen]; exact hi
    obtain ⟨dc, hc⟩ := h.cab i b _ (by rw [List.getElem?_eq_getElem hi, e]) (List.getElem?_eq_getElem hi')
    exact ⟨_, hc, (by intro _ e; cases e), (by intro _ e; cases e), (by intro _ e; cases e)⟩
  · obtain ⟨i, hi, e⟩ := List.getElem_of_mem hb
    have hi' : i < s.parties.length := by rw [← h.plen]; exact hi
    obtain ⟨dc, hc⟩ := h.par i b _ (by rw [List.getElem?_eq_getElem hi, e]) (List.getElem?_eq_getElem hi')
    exact ⟨_, hc, (by intro _ e; cases e), (by intro _ e; cases e), (by intro _ e; cases e)⟩
theorem scTake : FnScope ["ship", "plan", "p", "cabin"] ["ship"] (defScope sTake) := ⟨rfl, rfl, rfl, by decide +kernel, rfl, by decide +kernel, by decide +kernel⟩
theorem ok_take {f fP Pt : Addr} {fd dP : FuncData} {fa : Nat → Addr} {fds : Nat → FuncData} (F : Fun K "take_plan" "take_plan" sTake f fd) (T : Txt K C) (M : Ms P w K mg base C fa fds) (DP : Df P w K mg base 17 "plan_of" ["ship"] (spPlanOf C Pt) fP dP) (ml : mg "len" = none) (n6 : Cn mg "NOBODY" (-6)) :
    FnOk P w K mg base CX0 18 f fd ["ship"] (spTake C Pt) := by
  refine F.ok scTake (fun vs H Q E h => ?_) (fun cdv A outer s H vs Q E hr h => ?_)
  · obtain ⟨a, z, s, rfl, _⟩ := h
    rfl
  obtain ⟨a, z, sh, rfl, hS, hW, hT, q⟩ := h
  obtain ⟨u6, m6, r6⟩ := n6
  refine ⟨_, pss_cons (ps_if (pt_cmpR op_eq (pe_callB call_len_seq rfl ml PySem.boot_len (pa_cons (pe_meth0 (pv 0) T.cS M.wt.mt M.wt.ok (hr.mono (by decide)) M.wt.b .nil pass0) pa_nil)) pe_int (nomark _)) (pss_one (ps_ret (pe_glob rfl m6 r6))) pss_nil)
    (pss_cons (ps_set (i := 1) scTake.nd rfl (Or.inl rfl) (pe_call DP.ok hr rfl DP.m DP.kp DP.b .nil pass0 (pa_cons (pv 0) pa_nil)))
    (pss_cons (ps_lock (ps_for PassesOwn.never rfl (pi_items (pv 1)) (pg_tup rfl (pgs_cons (pg_name (i := 2) scTake.nd rfl (Or.inl rfl)) (pgs_cons (pg_name (i := 3) scTake.nd rfl (Or.inl rfl)) pgs_nil)))
      (pss_one (ps_fld (pe_ix ix_list (pe_fld (pv 0) rfl) (pv 2) (fun _ _ => rfl)) (pv 3) rfl))))
    (pss_one (ps_ret (pe_callB call_lenD rfl ml PySem.boot_len (pa_cons (pv 1) pa_nil)))))), ?_⟩
  refine ⟨_, rfl, a, z.dx, _, rfl, hS.ship, ship_no (by decide) (by decide), a, z, sh, rfl, hS, hW.par, fun H1 r1 n1 s1 hr1 => ?_⟩
  refine ⟨r1, _, rfl, .inl (SqL.of hr1), rfl, _, rfl, ?_⟩
  rw [dec_int, List.length_map]
  have hS1 := hS.same s1
  have hT1 := hT.same s1
  by_cases hw : sh.waits = []
  · refine yes (by rw [hw]; rfl) ?_
    obtain ⟨ev, es⟩ := chg_ref (s := sh) (x := .take) (v := -6) (by unfold act; dsimp only; rw [if_pos hw])
    have := q H1 (by rw [es]; exact hS1) (fun b o e _ _ => s1 b o e) hT1
    rw [ev] at this
    exact this
  refine no (beq_eq_false_iff_ne.mpr (fun e => hw (List.length_eq_zero_iff.mp (by omega)))) ?_
  refine ⟨_, rfl, a, z, sh, rfl, hS1, hW.cab, hW.par, hT1, fun H2 d nd s2 hT2 hd => ?_⟩
  have hS2 := hS1.sameT hT1 s2
  have eact : act ⟨sh, [], []⟩ .take = ((⟨sh, [], []⟩ : Desk).become (putAll sh (sh.plan sh.waits sh.frees)), Km437.only (((sh.plan sh.waits sh.frees).length : Nat) : Int)) := by
    unfold act
    dsimp only
    rw [if_neg hw]
    rfl
  obtain ⟨eV, eS⟩ := chg_did eact
  have hin : ∀ x, x ∈ sh.plan sh.waits sh.frees → x.1 < sh.parties.length := fun x hx => waits_lt (plan_mem _ _ x hx)
  generalize sh.plan sh.waits sh.frees = pl at hd eV eS hin
  refine ⟨d, _, hd, trivial, fun od => ?_⟩
  have keepF : ∀ b o, H2 b = some o → b ≠ d → (upd H2 d (.frz od (.dK (pl.map kvN)))) b = some o := fun b o e n => by rw [upd_ne n]; exact e
  have hSf : ShipAt C (upd H2 d (.frz od (.dK (pl.map kvN)))) a z sh := by
    have nd' : ∀ b o, H2 b = some o → (∀ kvs, o ≠ .dK kvs) → b ≠ d := fun b o e n z => by
      rw [z, hd] at e
      exact n _ (Option.some.inj e).symm
    exact ⟨keepF _ _ hS2.ship (nd' _ _ hS2.ship (by intro _ e; cases e)), keepF _ _ hS2.lc (nd' _ _ hS2.lc (by intro _ e; cases e)), keepF _ _ hS2.lp (nd' _ _ hS2.lp (by intro _ e; cases e)), hS2.ne, hS2.clen, hS2.plen,
      fun i b c e1 e2 => let ⟨dx, e⟩ := hS2.cab i b c e1 e2; ⟨dx, keepF _ _ e (nd' _ _ e (by intro _ e; cases e))⟩, fun i b c e1 e2 => let ⟨dx, e⟩ := hS2.par i b c e1 e2; ⟨dx, keepF _ _ e (nd' _ _ e (by intro _ e; cases e))⟩, hS2.cnd, hS2.pnd⟩
  refine ⟨_, rfl, d, od, pl.map kvN, rfl, upd_same, for_items (d := d) (od := od) (kvs := pl.map kvN)
    (fun i σ H' => ∃ v2 v3 : Option V, σ = [some (.ref a), some (.ref d), v2, v3] ∧ H' d = some (.frz od (.dK (pl.map kvN))) ∧ ShipAt C H' a z (putAll sh (pl.take i)) ∧ ∀ b o, H2 b = some o → b ∉ z.foot → b ≠ d → H' b = some o)
    ⟨none, none, rfl, upd_same, hSf, fun b o e _ n => keepF b o e n⟩ (fun i σ H' _ ⟨_, _, _, h, _⟩ => h) ?_ ?_⟩
  · rintro i k v σ H' Tp hi nT ⟨v2, v3, rfl, hd', hS', k'⟩
    obtain ⟨x, hx, ex⟩ : ∃ x, pl[i]? = some x ∧ kvN x = (k, v) := by
      rw [List.getElem?_map] at hi
      cases e : pl[i]? with
      | none =>
        rw [e] at hi
        cases hi
      | some x =>
        rw [e] at hi
        exact ⟨x, rfl, Option.some.inj hi⟩
    obtain ⟨p, c⟩ := x
    have ek : Sum.inl (p : Int) = k := congrArg Prod.fst ex
    have ev : nV c = v := congrArg Prod.snd ex
    subst ek
    subst ev
    have hp : p < (putAll sh (pl.take i)).parties.length := by
      rw [putAll_par]
      exact hin (p, c) (List.mem_of_getElem? hx)
    have sT : Same H' (upd H' Tp (.tup [kV (Sum.inl (p : Int)), nV c])) := same_new nT _
    have hS3 := hS'.same sT
    obtain ⟨b, dx, hb, hb2⟩ := hS3.parAt hp
    have ndb : d ≠ b := ne_of (sT _ _ hd') hb2 (by intro e; cases e)
    refine ⟨Tp, _, rfl, SqT.of upd_same, rfl, _, _, rfl, _, _, rfl, rfl, _, rfl, _, rfl, a, C.S, z.dx, _, _, rfl, hS3.ship, T.cS, T.s2, ship_parties _ _, _, rfl, z.lp, _, _, _, rfl, rfl, SqL.of hS3.lp, list_at hb, b, C.P, dx, _, rfl, hb2, T.cP, T.p4, (by show 5 < 1000; decide), ?_⟩
    have eF : putF "cabin" (nV c) (parF ((putAll sh (pl.take i)).party p)) = parF { (putAll sh (pl.take i)).party p with cabin := some c } := put_cabin _ (some c)
    rw [eF]
    refine ⟨_, _, rfl, by rw [upd_ne ndb]; exact sT _ _ hd', ?_, fun b' o e n1 n2 => ?_⟩
    · rw [putAll_snoc hx]
      exact hS3.setPar (fs := []) hb hb2 (p' := { (putAll sh (pl.take i)).party p with cabin := some c }) (dx' := dx) upd_same fun e o h n => by rw [upd_ne n]; exact h
    · rw [upd_ne (fun x => n1 (by rw [x]; exact foot_ps? hb))]
      exact sT _ _ (k' b' o e n1 n2)
  · rintro σ H' ⟨v2, v3, rfl, hd', hS', k'⟩
    rw [List.length_map, List.take_length] at hS'
    refine ⟨hd', _, rfl, d, _, rfl, upd_same, ?_⟩
    rw [List.length_map]
    have kU : ∀ b o, H' b = some o → b ≠ d → (upd H' d (.dK (pl.map kvN))) b = some o := fun b o e n => by rw [upd_ne n]; exact e
    have nd' : ∀ b o, H' b = some o → (∀ o' u, o ≠ .frz o' u) → b ≠ d := fun b o e n z => by
      rw [z, hd'] at e
      exact n _ _ (Option.some.inj e).symm
    have hSe : ShipAt C (upd H' d (.dK (pl.map kvN))) a z (putAll sh pl) := ⟨kU _ _ hS'.ship (nd' _ _ hS'.ship (by intro _ _ e; cases e)), kU _ _ hS'.lc (nd' _ _ hS'.lc (by intro _ _ e; cases e)), kU _ _ hS'.lp (nd' _ _ hS'.lp (by intro _ _ e; cases e)), hS'.ne, hS'.clen, hS'.plen,
      fun i b c e1 e2 => let ⟨dx, e⟩ := hS'.cab i b c e1 e2; ⟨dx, kU _ _ e (nd' _ _ e (by intro _ _ e; cases e))⟩, fun i b c e1 e2 => let ⟨dx, e⟩ := hS'.par i b c e1 e2; ⟨dx, kU _ _ e (nd' _ _ e (by intro _ _ e; cases e))⟩, hS'.cnd, hS'.pnd⟩
    have all : ∀ b o, H2 b = some o → b ∉ z.foot → b ≠ d → (upd H' d (.dK (pl.map kvN))) b = some o := fun b o e n1 n2 => by rw [upd_ne n2]; exact k' b o e n1 n2
    have hTe : Tab Pt (upd H' d (.dK (pl.map kvN))) := by
      obtain ⟨ps, h1, h2⟩ := hT2
      have nf : ∀ b o, H2 b = some o → ((∃ ps, o = .tbl ps) ∨ ∃ φ, o = .ext φ) → b ∉ z.foot ∧ b ≠ d := fun b o e ho => by
        refine ⟨fun hf => ?_, fun z => ?_⟩
        · obtain ⟨o', e', f1, _, f3⟩ := foot_at hS2 hf
          rw [e] at e'
          have e' := Option.some.inj e'
          subst e'
          rcases ho with ⟨ps, ho⟩ | ⟨φ, ho⟩
          · exact f1 ps ho
          · exact f3 φ ho
        · rw [z, hd] at e
          have e := Option.some.inj e
          subst e
          rcases ho with ⟨ps, ho⟩ | ⟨φ, ho⟩ <;> cases ho
      refine ⟨ps, all _ _ h1 (nf _ _ h1 (.inl ⟨_, rfl⟩)).1 (nf _ _ h1 (.inl ⟨_, rfl⟩)).2, ?_⟩
      rcases h2 with h2 | ⟨c', h2, h3⟩
      · exact .inl h2
      · exact .inr ⟨c', h2, all _ _ h3 (nf _ _ h3 (.inr ⟨_, rfl⟩)).1 (nf _ _ h3 (.inr ⟨_, rfl⟩)).2⟩
    have fin := q _ (by rw [eS]; exact hSe) (fun b o e n1 n2 => all b o (s2 b o n2 (s1 b o e)) n1 (ne_of_none (s1 b o e) nd)) hTe
    rw [eV] at fin
    exact fin
end
end Cg

end
section
set_option Elab.async false
set_option linter.all false
set_option maxRecDepth 100000
set_option maxHeartbeats 4000000
namespace Cg
open Km437 (Cabin Party Ship Desk Call act)
/-! ## A change by the desk is a change by the ship, and leaves a ship as it may be -/
def isChange : Call → Bool
  | .cabin .. => true
  | .party .. => true
  | .give .. => true
  | .leave .. => true
  | .shut .. => true
  | .move .. => true
  | .swap .. => true
  | .take => true
  | .pay .. => true
  | _ => false
def Did (d : Desk) (x : Call) (s : Ship) (r : Desk × Km437.Ans) : Prop := r.2 = Km437.only r.2.value ∧ ((r.2.value < 0 ∧ r.1 = d ∧ s = d.now) ∨ (0 ≤ r.2.value ∧ r.1 = d.become s))
theorem did_ref {d : Desk} {x : Call} {v : Int} (hv : v < 0) : Did d x d.now (d, Km437.only v) := ⟨rfl, .inl ⟨hv, rfl, rfl⟩⟩
theorem did_yes {d : Desk} {x : Call} {s : Ship} {n : Nat} : Did d x s (d.become s, Km437.only ((n : Nat) : Int)) := ⟨rfl, .inr ⟨Int.natCast_nonneg _, rfl⟩⟩
theorem act_did (d : Desk) (x : Call) (h : isChange x = true) : Did d x (chgS d.now x) (act d x) ∧ (act d x).2.value = chgV d.now x := by
  cases x with
  | cabin a b r n f =>
    unfold chgS chgV act
    dsimp only
    split
    · exact ⟨did_ref (by decide), rfl⟩
    · split
      · exact ⟨did_ref (by decide), rfl⟩
      · exact ⟨did_yes, rfl⟩
  | party n r f =>
    unfold chgS chgV act
    dsimp only
    split
    · exact ⟨did_ref (by decide), rfl⟩
    · split
      · exact ⟨did_ref (by decide), rfl⟩
      · exact ⟨did_yes, rfl⟩
  | give p k =>
    unfold chgS chgV act
    dsimp only
    split
    · exact ⟨did_ref (by decide), rfl⟩
    · split
      · exact ⟨did_ref (by decide), rfl⟩
      · split
        · exact ⟨did_ref (by decide), rfl⟩
        · split
          · exact ⟨did_ref (by decide), rfl⟩
          · exact ⟨did_yes, rfl⟩
  | leave p =>
    unfold chgS chgV act
    dsimp only
    split
    · exact ⟨did_ref (by decide), rfl⟩
    · exact ⟨did_yes, rfl⟩
  | shut k o =>
    unfold chgS chgV act
    dsimp only
    split
    · exact ⟨did_ref (by decide), rfl⟩
    · split
      · exact ⟨did_ref (by decide), rfl⟩
      · split
        · exact ⟨did_ref (by decide), rfl⟩
        · split
          · exact ⟨did_ref (by decide), rfl⟩
          · exact ⟨did_yes, rfl⟩
  | move p k =>
    unfold chgS chgV act
    dsimp only
    split
    · exact ⟨did_ref (by decide), rfl⟩
    · cases e : (d.now.party p).cabin with
      | none => exact ⟨did_ref (by decide), rfl⟩
      | some j =>
        dsimp only
        split
        · exact ⟨did_ref (by decide), rfl⟩
        · split
          · exact ⟨did_ref (by decide), rfl⟩
          · exact ⟨did_yes, rfl⟩
  | swap p q =>
    unfold chgS chgV act
    dsimp only
    split
    · exact ⟨did_ref (by decide), rfl⟩
    · split
      · exact ⟨did_ref (by decide), rfl⟩
      · cases e1 : (d.now.party p).cabin with
        | none => exact ⟨did_ref (by decide), rfl⟩
        | some j =>
          cases e2 : (d.now.party q).cabin with
          | none => exact ⟨did_ref (by decide), rfl⟩
          | some k =>
            dsimp only
            split
            · exact ⟨did_ref (by decide), rfl⟩
            · exact ⟨did_yes (n := 0), rfl⟩
  | take =>
    unfold chgS chgV act
    dsimp only
    split
    · exact ⟨did_ref (by decide), rfl⟩
    · exact ⟨did_yes, rfl⟩
  | pay p r =>
    unfold chgS chgV act
    dsimp only
    split
    · exact ⟨did_ref (by decide), rfl⟩
    · split
      · exact ⟨did_ref (by decide), rfl⟩
      · cases e : (d.now.party p).cabin with
        | none => exact ⟨did_yes, rfl⟩
        | some k =>
          dsimp only
          split
          · exact ⟨did_ref (by decide), rfl⟩
          · exact ⟨did_yes, rfl⟩
  | _ => cases h
theorem party_set {s : Ship} {p q : Nat} {x : Party} : ({ s with parties := s.parties.set p x } : Ship).party q = s.party q ∨ ({ s with parties := s.parties.set p x } : Ship).party q = x := by
  unfold Ship.party
  rw [List.getD_eq_getElem?_getD, List.getD_eq_getElem?_getD]
  show ((s.parties.set p x)[q]?).getD _ = _ ∨ ((s.parties.set p x)[q]?).getD _ = _
  by_cases e : p = q
  · subst e
    by_cases hp : p < s.parties.length
    · rw [List.getElem?_set_self hp]
      exact .inr rfl
    · rw [List.getElem?_eq_none (by rw [List.length_set]; omega), List.getElem?_eq_none (by omega)]
      exact .inl rfl
  · rw [List.getElem?_set_ne e]
    exact .inl rfl
theorem wf_set {s : Ship} {p : Nat} {x : Party} (h : Wf s) (hx : ∀ k, x.cabin = some k → k < s.cabins.length) : Wf { s with parties := s.parties.set p x } := by
  refine ⟨h.cab, by show (s.parties.set p x).length ≤ 8; rw [List.length_set]; exact h.par, fun q k e => ?_⟩
  rcases party_set (s := s) (p := p) (q := q) (x := x) with z | z
  · rw [z] at e
    exact h.has q k e
  · rw [z] at e
    exact hx k e
theorem wf_put {s : Ship} {p k : Nat} (h : Wf s) (hk : k < s.cabins.length) : Wf (s.put p (some k)) := wf_set h fun j e => by
  have e : some k = some j := e
  rw [← Option.some.inj e]
  exact hk
theorem wf_opened : Wf Km437.opened := ⟨by decide, by decide, fun p k e => by
  unfold Ship.party Km437.opened at e
  simp at e⟩
theorem plan_cab {s : Ship} : ∀ (ps ks : List Nat) (x : Nat × Nat), x ∈ s.plan ps ks → x.2 ∈ ks
  | [], _, _, h => by cases h
  | p :: l, ks, x, h => by
    have h : x ∈ (match s.pick p l ks (s.housed (p :: l) ks) with
      | none => s.plan l ks
      | some k => (p, k) :: s.plan l (ks.filter fun y => y != k)) := h
    cases e : s.pick p l ks (s.housed (p :: l) ks) with
    | none =>
      rw [e] at h
      exact plan_cab l ks x h
    | some k =>
      rw [e] at h
      rcases List.mem_cons.mp h with z | z
      · rw [z]
        have fm : ∀ (F : Option Nat → Nat → Option Nat) (l : List Nat) (r : Option Nat), (∀ r k, F r k = r ∨ F r k = some k) → ∀ j, l.foldl F r = some j → j ∈ l ∨ r = some j := by
          intro F l
          induction l with
          | nil => exact fun r _ j h => .inr h
          | cons y l ih =>
            intro r hF j hj
            rcases ih (F r y) hF j hj with z | z
            · exact .inl (List.mem_cons_of_mem _ z)
            · rcases hF r y with w | w
              · rw [w] at z
                exact .inr z
              · rw [w] at z
                have z := Option.some.inj z
                rw [← z]
                exact .inl List.mem_cons_self
        unfold Ship.pick at e
        rcases fm _ _ _ (by
          intro r k
          split
          · exact .inl rfl
          · cases r with
            | none => exact .inr rfl
            | some j =>
              dsimp only
              split
              · exact .inr rfl
              · exact .inl rfl) k e with y | y
        · exact y
        · cases y
      · exact (List.mem_filter.mp (plan_cab l _ x z)).1
theorem wf_putAll : ∀ (l : List (Nat × Nat)) (s : Ship), Wf s → (∀ x, x ∈ l → x.2 < s.cabins.length) → Wf (putAll s l)
  | [], _, h, _ => h
  | x :: l, s, h, hl => wf_putAll l (s.put x.1 (some x.2)) (wf_put h (hl x List.mem_cons_self)) fun y hy => hl y (List.mem_cons_of_mem _ hy)
theorem wf_chg {s : Ship} (h : Wf s) (x : Call) (hx : isChange x = true) : Wf (chgS s x) := by
  cases x with
  | cabin a b r n f =>
    unfold chgS act
    dsimp only
    split
    · exact h
    · split
      · exact h
      · rename_i c2
        have c2 : ¬ 12 ≤ s.cabins.length := c2
        refine ⟨by show (s.cabins ++ [_]).length ≤ 12; rw [List.length_append, List.length_singleton]; omega, h.par, fun p k e => ?_⟩
        show k < (s.cabins ++ [_]).length
        rw [List.length_append]
        exact Nat.lt_of_lt_of_le (h.has p k e) (Nat.le_add_right _ _)
  | party n r f =>
    unfold chgS act
    dsimp only
    split
    · exact h
    · split
      · exact h
      · rename_i c2
        have c2 : ¬ 8 ≤ s.parties.length := c2
        refine ⟨h.cab, by show (s.parties ++ [_]).length ≤ 8; rw [List.length_append, List.length_singleton]; omega, fun p k e => ?_⟩
        have e : ((s.parties ++ [(⟨n, r, f == 1, none, false⟩ : Party)]).getD p (⟨0, 0, false, none, true⟩ : Party)).cabin = some k := e
        rw [List.getD_eq_getElem?_getD] at e
        by_cases hp : p < s.parties.length
        · rw [List.getElem?_append_left hp] at e
          refine h.has p k ?_
          unfold Ship.party
          rw [List.getD_eq_getElem?_getD]
          exact e
        · rw [List.getElem?_append_right (by omega)] at e
          by_cases h0 : p - s.parties.length = 0
          · rw [h0] at e
            cases e
          · rw [List.getElem?_eq_none (by rw [List.length_singleton]; omega)] at e
            cases e
  | give p k =>
    unfold chgS act
    dsimp only
    split
    · exact h
    · rename_i c1
      split
      · exact h
      · split
        · exact h
        · split
          · exact h
          · exact wf_put h (by omega)
  | leave p =>
    unfold chgS act
    dsimp only
    split
    · exact h
    · exact wf_set h fun k e => by cases e
  | shut k o =>
    unfold chgS act
    dsimp only
    split
    · exact h
    · split
      · exact h
      · split
        · exact h
        · split
          · exact h
          · refine ⟨by show (s.cabins.set k _).length ≤ 12; rw [List.length_set]; exact h.cab, h.par, fun p j e => ?_⟩
            show j < (s.cabins.set k _).length
            rw [List.length_set]
            exact h.has p j e
  | move p k =>
    unfold chgS act
    dsimp only
    split
    · exact h
    · rename_i c1
      cases e : (s.party p).cabin with
      | none => exact h
      | some j =>
        dsimp only
        split
        · exact h
        · split
          · exact h
          · exact wf_put h (by omega)
  | swap p q =>
    unfold chgS act
    dsimp only
    split
    · exact h
    · split
      · exact h
      · cases e1 : (s.party p).cabin with
        | none => exact h
        | some j =>
          cases e2 : (s.party q).cabin with
          | none => exact h
          | some k =>
            dsimp only
            split
            · exact h
            · exact wf_put (wf_put h (h.has q k e2)) (h.has p j e1)
  | take =>
    unfold chgS act
    dsimp only
    split
    · exact h
    · exact wf_putAll _ _ h fun x hx => frees_lt (plan_cab _ _ x hx)
  | pay p r =>
    unfold chgS act
    dsimp only
    split
    · exact h
    · split
      · exact h
      · cases e : (s.party p).cabin with
        | none => exact wf_set h fun k e' => h.has p k (e.trans e')
        | some k =>
          dsimp only
          split
          · exact h
          · exact wf_set h fun k' e' => h.has p k' (e.trans e')
  | _ => cases hx
end Cg

end
section
set_option Elab.async false
set_option linter.all false
set_option maxRecDepth 100000
set_option maxHeartbeats 4000000
namespace Cg
open PySem PySem.Spec PyProof.Rows L2
open Km437 (Cabin Party Ship Desk Call act)
abbrev sTDoes : Stmt := top 49
abbrev sTMost : Stmt := top 50
abbrev sTPlan : Stmt := top 51
/-- what is answered of a ship -/
def askL (s : Ship) (x : Call) : List Int := Km437Neutral.told (act ⟨s, [], []⟩ x).2
def spAsk (C : Cl) (Pt : Addr) (n : Nat) (mk : List Nat → Call) : Sp := fun vs H Q _ => ∃ (a : Addr) (z : Sh) (s : Ship) (ns : List Nat), vs = .ref a :: ns.map nV ∧ ns.length = n ∧ ShipAt C H a z s ∧ Wf s ∧ Tab Pt H ∧
  ∀ (H' : Hp) (r : Addr), H r = none → SameT Pt H H' → Tab Pt H' → H' r = some (.lst ((askL s (mk ns)).map V.int)) → Q (.ref r) H'
def mkDoes : List Nat → Call
  | [p, k] => .does p k
  | _ => .start
def mkMost : List Nat → Call := fun _ => .most
def mkPlan : List Nat → Call := fun _ => .plan
section
variable {P : Program} {w : World} {K : PySem.W.Frag} {mg : Str → Option Value} {base : Heap} {C : Cl}
theorem scTDoes : FnScope ["ship", "p", "k"] ["ship", "p", "k"] (defScope sTDoes) := ⟨rfl, rfl, rfl, by decide +kernel, rfl, by decide +kernel, by decide +kernel⟩
theorem ok_tDoes {f Pt : Addr} {fd : FuncData} {fa : Nat → Addr} {fds : Nat → FuncData} (F : Fun K "tell_does" "tell_does" sTDoes f fd) (T : Txt K C) (M : Ms P w K mg base C fa fds) (n2 : Cn mg "NOT_THERE" (-2)) : FnOk P w K mg base CX0 5 f fd ["ship", "p", "k"] (spAsk C Pt 2 mkDoes) := by
  refine F.ok scTDoes (fun vs H Q E h => ?_) (fun cdv A outer s H vs Q E hr h => ?_)
  · obtain ⟨a, z, s, ns, rfl, hn, _⟩ := h
    obtain ⟨p, k, rfl⟩ := len2 hn
    rfl
  obtain ⟨a, z, sh, ns, rfl, hn, hS, hW, hT, q⟩ := h
  obtain ⟨p, k, rfl⟩ := len2 hn
  obtain ⟨u2, m2, r2⟩ := n2
  refine ⟨_, pss_cons (ps_if (PW.pt (pw_or (pt_not (pt_val (pe_meth (pv 0) T.cS M.hasP.mt M.hasP.ok hr M.hasP.b .nil pass0 (pa_cons (pv 1) pa_nil)))) (pw_or1 (pt_not (pt_val (pe_meth (pv 0) T.cS M.hasC.mt M.hasC.ok hr M.hasC.b .nil pass0 (pa_cons (pv 2) pa_nil))))))) (pss_one (ps_ret (pe_lst (pa_cons (pe_glob rfl m2 r2) pa_nil)))) pss_nil)
    (pss_one (ps_ret (pe_lst (pa_cons (pe_ifExp (pt_val (pe_meth (pv 0) T.cS M.does.mt M.does.ok hr M.does.b .nil pass0 (pa_cons (pv 1) (pa_cons (pv 2) pa_nil)))) pe_int pe_int) (pa_cons (pe_ifExp (pt_val (pe_meth (pv 0) T.cS M.isF.mt M.isF.ok hr M.isF.b .nil pass0 (pa_cons (pv 2) pa_nil))) pe_int pe_int) pa_nil))))), ?_⟩
  have fin : ∀ l : List Int, askL sh (.does p k) = l → l.length ≤ 9 → (l.map V.int).length ≤ sizeLine ∧ ∀ r, H r = none → Q (.ref r) (upd H r (.lst (l.map V.int))) := fun l e hl => by
    refine ⟨by rw [List.length_map]; exact small (by omega), fun r hr => ?_⟩
    refine q _ r hr (Same.t (same_new hr _)) (hT.same (same_new hr _)) ?_
    show _ = some (HO.lst ((askL sh (.does p k)).map V.int))
    rw [upd_same, e]
  refine ⟨_, rfl, a, z.dx, _, rfl, hS.ship, ship_no (by decide) (by decide), _, rfl, a, z, sh, p, rfl, hS, _, rfl, ?_⟩
  cases hp : sh.is p with
  | false =>
    have c0 : sh.is p = false ∨ sh.cabins.length ≤ k := .inl hp
    exact yes rfl (yes rfl (fin [-2] (by unfold askL act; dsimp only; rw [if_pos c0]; rfl) (by decide)))
  | true =>
    refine no rfl ⟨_, rfl, a, z.dx, _, rfl, hS.ship, ship_no (by decide) (by decide), _, rfl, a, z, sh, k, rfl, hS, _, rfl, ?_⟩
    by_cases hk : k < sh.cabins.length
    · rw [decide_eq_true hk]
      have c0 : ¬ (sh.is p = false ∨ sh.cabins.length ≤ k) := by
        rw [hp]
        simp
        exact hk
      refine no rfl ⟨_, rfl, a, z.dx, _, rfl, hS.ship, ship_no (by decide) (by decide), _, rfl, _, rfl, a, z, sh, p, k, rfl, hS, is_lt hp, hk, _, rfl, ?_⟩
      have e : askL sh (.does p k) = [((Km437.bit (Km437.does (sh.cabin k) (sh.party p)) : Nat) : Int), ((Km437.bit (sh.who k).isNone : Nat) : Int)] := by
        unfold askL act
        dsimp only
        rw [if_neg c0, free_who hk]
        rfl
      have snd : ∀ b1 : Int, (askL sh (.does p k) = [b1, ((Km437.bit (sh.who k).isNone : Nat) : Int)]) → tCons (tIf (tB (tMeth C.S "is_free" (spIsFree C) [] E0 (tVar 0) (tCons (tVar 2) tNil))) (tC (.int 1)) (tC (.int 0))) tNil [some (.ref a), some (nV p), some (nV k)] H fun xs H2 => (V.int b1 :: xs).length ≤ sizeLine ∧ ∀ r, H2 r = none → Q (.ref r) (upd H2 r (.lst (V.int b1 :: xs))) := fun b1 eb => by
        refine ⟨_, rfl, a, z.dx, _, rfl, hS.ship, ship_no (by decide) (by decide), _, rfl, a, z, sh, k, rfl, hS, hW.par, _, rfl, ?_⟩
        cases ef : (sh.who k).isNone with
        | true =>
          rw [ef] at eb
          exact yes rfl (fin _ eb (by show 2 ≤ 9; decide))
        | false =>
          rw [ef] at eb
          exact no rfl (fin _ eb (by show 2 ≤ 9; decide))
      cases ed : Km437.does (sh.cabin k) (sh.party p) with
      | true =>
        rw [ed] at e
        exact yes rfl (snd _ e)
      | false =>
        rw [ed] at e
        exact no rfl (snd _ e)
    · rw [decide_eq_false hk]
      have c0 : sh.is p = false ∨ sh.cabins.length ≤ k := .inr (by omega)
      exact yes rfl (fin [-2] (by unfold askL act; dsimp only; rw [if_pos c0]; rfl) (by decide))
theorem scTMost : FnScope ["ship", "waiting"] ["ship"] (defScope sTMost) := ⟨rfl, rfl, rfl, by decide +kernel, rfl, by decide +kernel, by decide +kernel⟩
theorem ok_tMost {f fM Pt : Addr} {fd dM : FuncData} {fa : Nat → Addr} {fds : Nat → FuncData} (F : Fun K "tell_most" "tell_most" sTMost f fd) (T : Txt K C) (M : Ms P w K mg base C fa fds) (DM : Df P w K mg base 15 "most_of" ["ship", "parties"] (spMostOf C Pt) fM dM) (ml : mg "len" = none) :
    FnOk P w K mg base CX0 16 f fd ["ship"] (spAsk C Pt 0 mkMost) := by
  refine F.ok scTMost (fun vs H Q E h => ?_) (fun cdv A outer s H vs Q E hr h => ?_)
  · obtain ⟨a, z, s, ns, rfl, hn, _⟩ := h
    rw [List.length_eq_zero_iff.mp hn]
    rfl
  obtain ⟨a, z, sh, ns, rfl, hn, hS, hW, hT, q⟩ := h
  have en := List.length_eq_zero_iff.mp hn
  subst en
  refine ⟨_, pss_cons (ps_set (i := 1) scTMost.nd rfl (Or.inl rfl) (pe_meth0 (pv 0) T.cS M.wt.mt M.wt.ok (hr.mono (by decide)) M.wt.b .nil pass0)) (pss_one (ps_ret (pe_lst (pa_cons (pe_call DM.ok hr rfl DM.m DM.kp DM.b .nil pass0 (pa_cons (pv 0) (pa_cons (pv 1) pa_nil)))
    (pa_cons (pe_callB call_len_seq rfl ml PySem.boot_len (pa_cons (pv 1) pa_nil))
    (pa_cons (pe_callB call_len_seq rfl ml PySem.boot_len (pa_cons (pe_meth0 (pv 0) T.cS M.fr.mt M.fr.ok (hr.mono (by decide)) M.fr.b .nil pass0) pa_nil)) pa_nil)))))), ?_⟩
  refine ⟨_, rfl, a, z.dx, _, rfl, hS.ship, ship_no (by decide) (by decide), a, z, sh, rfl, hS, hW.par, fun H1 r1 n1 s1 hr1 => ?_⟩
  have hT1 := hT.same s1
  have hS1 := hS.same s1
  refine ⟨_, rfl, _, rfl, a, r1, z, sh, sh.waits, rfl, hS1, hW.cab, hW.par, hr1, Nat.le_trans (waits_len sh) hW.par, fun p hp => waits_lt hp, waits_nd sh, hT1, fun H2 s2 hT2 => ?_⟩
  have hr2 : LstN H2 r1 sh.waits := s2 _ _ (hT1.ne hr1 (by intro ps e; cases e)) hr1
  have hS2 := hS1.sameT hT1 s2
  have s12 : SameT Pt H H2 := (Same.t s1).trans s2
  refine ⟨_, rfl, r1, _, rfl, .inl (SqL.of hr2), ?_⟩
  refine ⟨_, rfl, a, z.dx, _, rfl, hS2.ship, ship_no (by decide) (by decide), a, z, sh, rfl, hS2, hW.cab, hW.par, fun H4 r4 n4 s4 hr4 => ?_⟩
  refine ⟨r4, _, rfl, .inl (SqL.of hr4), (by show 3 ≤ sizeLine; decide), fun r hr' => ?_⟩
  have s14 : SameT Pt H H4 := s12.trans (Same.t s4)
  have hT4 : Tab Pt H4 := hT2.same s4
  refine q _ r (SameT.free hT4 s14 hr') (s14.trans (Same.t (same_new hr' _))) (hT4.same (same_new hr' _)) ?_
  rw [upd_same, List.length_map, List.length_map]
  rfl
theorem val_find (l : List (Nat × Nat)) (p : Nat) : valV (l.map kvN) (Sum.inl (p : Int) : Key) = (l.find? fun x => x.1 == p).map fun x => nV x.2 := by
  induction l with
  | nil => rfl
  | cons x l ih =>
    rw [List.map_cons, List.find?_cons]
    by_cases e : x.1 = p
    · rw [valV_pos (show (kvN x).1 = Sum.inl (p : Int) by rw [← e]; rfl), beq_iff_eq.mpr e]
      rfl
    · rw [valV_neg (fun z => e (inl_inj.mp z)), beq_eq_false_iff_ne.mpr e]
      exact ih
def planAt (l : List (Nat × Nat)) (p : Nat) : Nat := match l.find? fun x => x.1 == p with
  | some x => x.2 + 1
  | none => 0
abbrev sTold : Stmt := top 48
def spTold : Sp := fun vs H Q _ => ∃ o : Option Nat, vs = [vO o] ∧ Q (nV (match o with | some k => k + 1 | none => 0)) H
theorem scTold : FnScope ["cabin"] ["cabin"] (defScope sTold) := ⟨rfl, rfl, rfl, by decide +kernel, rfl, by decide +kernel, by decide +kernel⟩
theorem ok_told {f : Addr} {fd : FuncData} (F : Fun K "told_cabin" "told_cabin" sTold f fd) : FnOk P w K mg base CX0 1 f fd ["cabin"] spTold := by
  refine F.ok scTold (fun vs H Q E h => ?_) (fun cdv A outer s H vs Q E hr h => ?_)
  · obtain ⟨o, rfl, _⟩ := h
    rfl
  obtain ⟨o, rfl, q⟩ := h
  refine ⟨_, pss_one (ps_ret (pe_ifExp (pt_cmp (pc_isN (pv 0))) pe_int (pe_op op_add (pv 0) pe_int))), ?_⟩
  refine ⟨_, rfl, _, rfl, ?_⟩
  rw [vO_non]
  cases o with
  | none => exact yes rfl q
  | some k => exact no rfl ⟨_, rfl, _, _, rfl, rfl, q⟩
theorem scTPlan : FnScope ["ship", "plan", "p"] ["ship"] (defScope sTPlan) := ⟨rfl, rfl, rfl, by decide +kernel, rfl, by decide +kernel, by decide +kernel⟩
theorem ok_tPlan {f fP fT Pt : Addr} {fd dP dT : FuncData} {fa : Nat → Addr} {fds : Nat → FuncData} (F : Fun K "tell_plan" "tell_plan" sTPlan f fd) (DP : Df P w K mg base 17 "plan_of" ["ship"] (spPlanOf C Pt) fP dP) (DT : Df P w K mg base 1 "told_cabin" ["cabin"] spTold fT dT) (ml : mg "len" = none) (mr : mg "range" = none) (b8 : Cn mg "PLAN_LENGTH" 8) :
    FnOk P w K mg base CX0 18 f fd ["ship"] (spAsk C Pt 0 mkPlan) := by
  refine F.ok scTPlan (fun vs H Q E h => ?_) (fun cdv A outer s H vs Q E hr h => ?_)
  · obtain ⟨a, z, s, ns, rfl, hn, _⟩ := h
    rw [List.length_eq_zero_iff.mp hn]
    rfl
  obtain ⟨a, z, sh, ns, rfl, hn, hS, hW, hT, q⟩ := h
  have en := List.length_eq_zero_iff.mp hn
  subst en
  obtain ⟨u8, m8, r8⟩ := b8
  have hu := hu_of hr
  refine ⟨_, pss_cons (ps_set (i := 1) scTPlan.nd rfl (Or.inr rfl) (pe_call DP.ok hr rfl DP.m DP.kp DP.b .nil pass0 (pa_cons (pv 0) pa_nil)))
    (pss_one (ps_ret (pe_op op_cat (pe_lst (pa_cons (pe_callB call_lenD rfl ml PySem.boot_len (pa_cons (pv 1) pa_nil)) pa_nil))
      (pe_lc (own := [("p", 2)]) rfl scTPlan.nd (pi_range1 rfl mr (pa_cons (pe_glob rfl m8 r8) pa_nil)) (blkOk_by rfl) (fun _ _ _ _ _ => pg_name (i := 2) scTPlan.nd rfl (Or.inl rfl))
        (fun _ _ _ _ _ => pts_nil) (fun _ _ _ _ _ => pe_call DT.ok (hr.mono (by decide)) rfl DT.m DT.kp DT.b .nil pass0 (pa_cons (pe_dget1 hu (pv 1) (pv 2) ⟨rfl, rfl, rfl, rfl⟩) pa_nil)))))), ?_⟩
  refine ⟨_, rfl, a, z, sh, rfl, hS, hW.cab, hW.par, hT, fun H1 d nd s1 hT1 hd => ?_⟩
  have eask : askL sh .plan = (((sh.plan sh.waits sh.frees).length : Nat) : Int) :: ((List.range 8).map fun p => ((planAt (sh.plan sh.waits sh.frees) p : Nat) : Int)) := by
    unfold askL act
    dsimp only
    show _ :: Km437Neutral.nums _ = _
    unfold Km437Neutral.nums
    rw [List.map_map]
    rfl
  generalize sh.plan sh.waits sh.frees = pl at hd eask
  refine ⟨_, rfl, d, _, rfl, hd, (by show 1 ≤ sizeLine; decide), fun p1 np1 => ?_⟩
  rw [List.length_map]
  have sp1 : Same H1 (upd H1 p1 (.lst [.int (pl.length : Nat)])) := same_new np1 _
  have hd1 := sp1 _ _ hd
  refine ⟨8, rfl, by decide, by decide, fun D hD => ?_⟩
  have sD : Same (upd H1 p1 (.lst [.int (pl.length : Nat)])) (upd (upd H1 p1 (.lst [.int (pl.length : Nat)])) D (.lst [])) := same_new hD _
  refine lc_range (lo := 0) (n := 8) (fun i H' => Same (upd H1 p1 (.lst [.int (pl.length : Nat)])) H' ∧ H' D = some (.lst (((List.range i).map fun p => ((planAt pl p : Nat) : Int)).map V.int))) ⟨sD, upd_same⟩ ?_ ?_
  · rintro i H' hi ⟨s2, hD2⟩
    have e0 : V.int (0 + (i : Nat)) = nV i := by
      show V.int (0 + (i : Int)) = V.int (i : Int)
      rw [Int.zero_add]
    rw [e0]
    refine ⟨rfl, ?_⟩
    unfold tYes
    refine yes rfl ?_
    refine ⟨_, rfl, d, rfl, .inl ⟨_, .inl (s2 _ _ hd1)⟩, _, rfl, _, DGet.k (k := Sum.inl (i : Int)) (s2 _ _ hd1), (pl.find? fun x => x.1 == i).map (·.2), ?_, ?_⟩
    · rw [val_find]
      cases pl.find? fun x => x.1 == i <;> rfl
    have app : ∀ n : Nat, planAt pl i = n → ∃ acc, H' D = some (.lst acc) ∧ acc.length < sizeLine ∧ Same (upd H1 p1 (.lst [.int (pl.length : Nat)])) (upd H' D (.lst (acc ++ [V.int (n : Int)]))) ∧ (upd H' D (.lst (acc ++ [V.int (n : Int)]))) D = some (.lst (((List.range (i + 1)).map fun p => ((planAt pl p : Nat) : Int)).map V.int)) := fun n en => by
      refine ⟨_, hD2, by rw [List.length_map, List.length_map, List.length_range]; exact small1000 (by omega), fun b u e => by rw [upd_ne (ne_of_none e hD)]; exact s2 b u e, ?_⟩
      rw [upd_same, List.range_succ, List.map_append, List.map_append, ← en]
      rfl
    refine app _ ?_
    unfold planAt
    cases pl.find? fun x => x.1 == i <;> rfl
  · rintro H' ⟨s2, hD2⟩
    refine ⟨p1, D, _, _, rfl, rfl, s2 _ _ upd_same, hD2, ?_, fun r hr' => ?_⟩
    · rw [List.length_map, List.length_map, List.length_range]
      show 1 + 8 ≤ sizeLine
      decide
    · have s13 : SameT Pt H H' := s1.trans (Same.t (sp1.trans s2))
      have hT3 : Tab Pt H' := hT1.same (sp1.trans s2)
      refine q _ r (SameT.free hT3 s13 hr') (s13.trans (Same.t (same_new hr' _))) (hT3.same (same_new hr' _)) ?_
      show _ = some (HO.lst ((askL sh .plan).map V.int))
      rw [upd_same, eask]
      rfl
end
end Cg

end
section
set_option Elab.async false
set_option linter.all false
set_option maxRecDepth 100000
set_option maxHeartbeats 4000000
namespace Cg
open PySem PySem.Spec PyProof.Rows L2
open Km437 (Cabin Party Ship Desk Call act parts)
/-! ## One party less: no more are housed -/
theorem near_le {s : Ship} {r r' ks : List Nat} (h : ∀ p, p ∈ r' → p ∈ r) : (s.near r' ks).length ≤ (s.near r ks).length := by
  unfold Ship.near
  rw [← List.countP_eq_length_filter, ← List.countP_eq_length_filter]
  refine List.countP_mono_left fun k _ hk => ?_
  obtain ⟨p, hp, hd⟩ := List.any_eq_true.mp hk
  exact List.any_eq_true.mpr ⟨p, h p hp, hd⟩
theorem housed_less (s : Ship) (ps ks : List Nat) (f : Nat → Bool) : s.housed (ps.filter f) ks ≤ s.housed ps ks := by
  unfold Ship.housed
  have h1 : s.without ps ks ≤ s.without (ps.filter f) ks + (ps.length - (ps.filter f).length) := by
    unfold Ship.without
    rcases foldl_max_mem ((parts ps).map fun r => r.length - (s.near r ks).length) 0 with e | e
    · rw [e]
      exact Nat.zero_le _
    · obtain ⟨r, hr, er⟩ := List.mem_map.mp e
      rw [← er]
      have hs := (mem_parts ps r).mp hr
      have hm : (r.filter f).length - (s.near (r.filter f) ks).length ∈ (parts (ps.filter f)).map fun r => r.length - (s.near r ks).length :=
        List.mem_map.mpr ⟨r.filter f, (mem_parts _ _).mpr (hs.filter f), rfl⟩
      have hg := (foldl_max_ge _ 0).2 _ hm
      have hn : (s.near (r.filter f) ks).length ≤ (s.near r ks).length := near_le fun p hp => (List.mem_filter.mp hp).1
      have c1 := List.length_eq_countP_add_countP f (l := r)
      have c2 := List.length_eq_countP_add_countP f (l := ps)
      have c3 := hs.countP_le (p := fun a => decide ¬ f a = true)
      rw [List.countP_eq_length_filter (p := f)] at c1 c2
      omega
  have h2 : (ps.filter f).length ≤ ps.length := List.length_filter_le _ _
  omega
/-! ## Bits -/
abbrev sBits : Stmt := top 47
def bitI (k : Nat) : Int := 1 * 2 ^ (((k : Nat) : Int)).toNat
theorem bits_sum : ∀ (w : List Nat) (acc : Nat), ((w.foldl (fun s k => s + 2 ^ k) acc : Nat) : Int) = (acc : Int) + (w.map bitI).sum
  | [], acc => by simp
  | k :: w, acc => by
    rw [List.foldl_cons, bits_sum w, List.map_cons, List.sum_cons]
    unfold bitI
    rw [Int.toNat_natCast, Int.one_mul]
    have e : ((2 ^ k : Nat) : Int) = (2 : Int) ^ k := by norm_cast
    rw [← e]
    omega
def spBits : Sp := fun vs H Q _ => ∃ (a : Addr) (w : List Nat), vs = [.ref a] ∧ LstN H a w ∧ w.length ≤ 12 ∧ (∀ k, k ∈ w → k < 12) ∧ ∀ H' : Hp, Same H H' → Q (nV (Km437.bits w)) H'
section
variable {P : Program} {w : World} {K : PySem.W.Frag} {mg : Str → Option Value} {base : Heap} {C : Cl}
theorem scBits : FnScope ["numbers", "number"] ["numbers"] (defScope sBits) := ⟨rfl, rfl, rfl, by decide +kernel, rfl, by decide +kernel, by decide +kernel⟩
theorem ok_bits {f : Addr} {fd : FuncData} (F : Fun K "bits_of" "bits_of" sBits f fd) (ms : mg "sum" = none) : FnOk P w K mg base CX0 1 f fd ["numbers"] spBits := by
  refine F.ok scBits (fun vs H Q E h => ?_) (fun cdv A outer s H vs Q E hr h => ?_)
  · obtain ⟨a, w, rfl, _⟩ := h
    rfl
  obtain ⟨a, ks, rfl, hL, h12, hlt, q⟩ := h
  refine ⟨_, pss_one (ps_ret (pe_callB (cr_sum rfl) rfl ms PyProof.Rows.boot_sum (pa_cons (pe_lc (own := [("number", 1)]) rfl scBits.nd (pi_list (pv 0)) (blkOk_by rfl) (fun _ _ _ _ _ => pg_name (i := 1) scBits.nd rfl (Or.inl rfl))
    (fun _ _ _ _ _ => pts_nil) (fun _ _ _ _ _ => pe_op op_shl pe_int (pv 1))) pa_nil))), ?_⟩
  refine ⟨_, rfl, a, rfl, ⟨_, SqL.of hL⟩, fun D hD => ?_⟩
  have s1 : Same H (upd H D (.lst [])) := same_new hD _
  refine lc_list (K := K) (a := a) (xs := ks.map nV) (fun i H' => Same H H' ∧ H' D = some (.lst (((ks.take i).map bitI).map V.int))) ⟨s1, upd_same⟩ (fun i H' _ h => SqL.of (h.1 _ _ hL)) ?_ ?_
  · rintro i y H' hi ⟨s2, hD2⟩
    obtain ⟨k, hk, rfl⟩ := map_nV hi
    have hk12 := hlt k (List.mem_of_getElem? hk)
    refine ⟨rfl, ?_⟩
    unfold tYes
    refine yes rfl ⟨_, rfl, 1, (k : Int), rfl, rfl, ⟨by omega, by omega, by decide⟩, _, hD2, ?_, fun b u e => by rw [upd_ne (ne_of_none e hD)]; exact s2 b u e, ?_⟩
    · rw [List.length_map, List.length_map, List.length_take]
      exact small1000 (by omega)
    · rw [upd_same, take_snoc hk, List.map_append, List.map_append]
      rfl
  · rintro H' ⟨s2, hD2⟩
    rw [List.length_map, List.take_length] at hD2
    refine ⟨D, _, rfl, SqL.of hD2, ?_⟩
    have e : nV (Km437.bits ks) = V.int (ks.map bitI).sum := by
      show V.int ((Km437.bits ks : Nat) : Int) = _
      unfold Km437.bits
      rw [bits_sum ks 0]
      simp
    have := q H' s2
    rw [e] at this
    exact this
/-- the end of a question: its list is laid -/
theorem ask_fin {Pt : Addr} {H H' : Hp} {Q : VK} {l : List Int} {xs : List V} (q : ∀ (H' : Hp) (r : Addr), H r = none → SameT Pt H H' → Tab Pt H' → H' r = some (.lst (l.map V.int)) → Q (.ref r) H') (s : SameT Pt H H') (hT : Tab Pt H') (e : xs = l.map V.int) (hl : l.length ≤ 9) :
    xs.length ≤ sizeLine ∧ ∀ r, H' r = none → Q (.ref r) (upd H' r (.lst xs)) := by
  subst e
  refine ⟨by rw [List.length_map]; exact small (by omega), fun r hr => ?_⟩
  exact q _ r (SameT.free hT s hr) (s.trans (Same.t (same_new hr _))) (hT.same (same_new hr _)) upd_same
end
end Cg

end
section
set_option Elab.async false
set_option linter.all false
set_option maxRecDepth 100000
set_option maxHeartbeats 4000000
namespace Cg
open PySem PySem.Spec PyProof.Rows L2
open Km437 (Cabin Party Ship Desk Call act)
abbrev sWould : Stmt := top 52
abbrev sChoices : Stmt := top 53
abbrev sTBeside : Stmt := top 54
abbrev sWho : Stmt := top 55
abbrev sLook : Stmt := top 56
abbrev sSee : Stmt := top 57
def mk1 (g : Nat → Call) : List Nat → Call
  | [p] => g p
  | _ => .start
section
variable {P : Program} {w : World} {K : PySem.W.Frag} {mg : Str → Option Value} {base : Heap} {C : Cl}
theorem same_refl (H : Hp) : Same H H := fun _ _ e => e
theorem scWould : FnScope ["ship", "p", "waiting"] ["ship", "p"] (defScope sWould) := ⟨rfl, rfl, rfl, by decide +kernel, rfl, by decide +kernel, by decide +kernel⟩
theorem ok_tWould {f fM fO Pt : Addr} {fd dM dO : FuncData} {fa : Nat → Addr} {fds : Nat → FuncData} (F : Fun K "tell_would" "tell_would" sWould f fd) (T : Txt K C) (M : Ms P w K mg base C fa fds) (DM : Df P w K mg base 15 "most_of" ["ship", "parties"] (spMostOf C Pt) fM dM) (DO : Df P w K mg base 1 "others" ["wish", "cabin"] spOthers fO dO)
    (n2 : Cn mg "NOT_THERE" (-2)) (n17 : Cn mg "ALREADY_SO" (-17)) : FnOk P w K mg base CX0 16 f fd ["ship", "p"] (spAsk C Pt 1 (mk1 .would)) := by
  refine F.ok scWould (fun vs H Q E h => ?_) (fun cdv A outer s H vs Q E hr h => ?_)
  · obtain ⟨a, z, s, ns, rfl, hn, _⟩ := h
    obtain ⟨p, rfl⟩ := len1 hn
    rfl
  obtain ⟨a, z, sh, ns, rfl, hn, hS, hW, hT, q⟩ := h
  obtain ⟨p, rfl⟩ := len1 hn
  obtain ⟨u2, m2, r2⟩ := n2
  obtain ⟨u17, m17, r17⟩ := n17
  have hr4 : Room 4 _ := hr.mono (by decide)
  refine ⟨_, pss_cons (ps_if (pt_not (pt_val (pe_meth (pv 0) T.cS M.hasP.mt M.hasP.ok hr4 M.hasP.b .nil pass0 (pa_cons (pv 1) pa_nil)))) (pss_one (ps_ret (pe_lst (pa_cons (pe_glob rfl m2 r2) pa_nil)))) pss_nil)
    (pss_cons (ps_if (pt_not (pt_val (pe_meth (pv 0) T.cS M.wts.mt M.wts.ok hr4 M.wts.b .nil pass0 (pa_cons (pv 1) pa_nil)))) (pss_one (ps_ret (pe_lst (pa_cons (pe_glob rfl m17 r17) pa_nil)))) pss_nil)
    (pss_cons (ps_set (i := 2) scWould.nd rfl (Or.inl rfl) (pe_meth0 (pv 0) T.cS M.wt.mt M.wt.ok hr4 M.wt.b .nil pass0))
    (pss_one (ps_ret (pe_lst (pa_cons (pe_op op_sub (pe_call DM.ok hr rfl DM.m DM.kp DM.b .nil pass0 (pa_cons (pv 0) (pa_cons (pv 2) pa_nil)))
      (pe_call DM.ok hr rfl DM.m DM.kp DM.b .nil pass0 (pa_cons (pv 0) (pa_cons (pe_call DO.ok (hr.mono (by decide)) rfl DO.m DO.kp DO.b .nil pass0 (pa_cons (pv 2) (pa_cons (pv 1) pa_nil))) pa_nil)))) pa_nil)))))), ?_⟩
  have q : ∀ (H' : Hp) (r : Addr), H r = none → SameT Pt H H' → Tab Pt H' → H' r = some (.lst ((askL sh (.would p)).map V.int)) → Q (.ref r) H' := q
  refine ⟨_, rfl, a, z.dx, _, rfl, hS.ship, ship_no (by decide) (by decide), _, rfl, a, z, sh, p, rfl, hS, _, rfl, ?_⟩
  cases hp : sh.is p with
  | false =>
    have e : askL sh (.would p) = [-2] := by unfold askL act; dsimp only; rw [if_pos hp]; rfl
    rw [e] at q
    exact yes rfl (ask_fin q (Same.t (same_refl H)) hT rfl (by decide))
  | true =>
    have c0 : ¬ sh.is p = false := by rw [hp]; simp
    have hpl := is_lt hp
    have hg : (sh.party p).gone = false := by
      unfold Ship.is at hp
      rw [Bool.and_eq_true, Bool.not_eq_true'] at hp
      exact hp.2
    refine no rfl ⟨_, rfl, a, z.dx, _, rfl, hS.ship, ship_no (by decide) (by decide), _, rfl, a, z, sh, p, rfl, hS, hpl, _, rfl, ?_⟩
    rw [hg]
    cases hc : (sh.party p).cabin with
    | some k =>
      have e : askL sh (.would p) = [-17] := by unfold askL act; dsimp only; rw [if_neg c0, hc]; rfl
      rw [e] at q
      exact yes rfl (ask_fin q (Same.t (same_refl H)) hT rfl (by decide))
    | none =>
      have e : askL sh (.would p) = [(((sh.housed sh.waits sh.frees) - (sh.housed (sh.waits.filter fun x => x != p) sh.frees) : Nat) : Int)] := by unfold askL act; dsimp only; rw [if_neg c0, hc]; rfl
      rw [e] at q
      refine no rfl ⟨_, rfl, a, z.dx, _, rfl, hS.ship, ship_no (by decide) (by decide), a, z, sh, rfl, hS, hW.par, fun H1 r1 n1 s1 hr1 => ?_⟩
      have hT1 := hT.same s1
      have hS1 := hS.same s1
      have hw8 := Nat.le_trans (waits_len sh) hW.par
      refine ⟨_, rfl, _, rfl, a, r1, z, sh, sh.waits, rfl, hS1, hW.cab, hW.par, hr1, hw8, fun p hp => waits_lt hp, waits_nd sh, hT1, fun H2 s2 hT2 => ?_⟩
      have hr2 : LstN H2 r1 sh.waits := s2 _ _ (hT1.ne hr1 (by intro ps e; cases e)) hr1
      have hS2 := hS1.sameT hT1 s2
      have s12 : SameT Pt H H2 := (Same.t s1).trans s2
      refine ⟨_, rfl, _, rfl, _, rfl, r1, sh.waits, some p, rfl, hr2, by omega, fun H3 r3 n3 s3 hr3 => ?_⟩
      have hr3 : LstN H3 r3 (sh.waits.filter fun x => x != p) := hr3
      refine ⟨a, r3, z, sh, _, rfl, hS2.same s3, hW.cab, hW.par, hr3, Nat.le_trans (List.length_filter_le _ _) hw8, fun p hp => waits_lt (List.mem_filter.mp hp).1, (waits_nd sh).sublist List.filter_sublist, hT2.same s3, fun H4 s4 hT4 => ?_⟩
      refine ⟨_, _, rfl, rfl, ask_fin q ((s12.trans (Same.t s3)).trans s4) hT4 ?_ (by show 1 ≤ 9; decide)⟩
      have hl := housed_less sh sh.waits sh.frees fun x => x != p
      show [V.int (((sh.housed sh.waits sh.frees : Nat) : Int) - ((sh.housed (sh.waits.filter fun x => x != p) sh.frees : Nat) : Int))] = [V.int _]
      rw [Int.ofNat_sub hl]
theorem scChoices : FnScope ["ship", "p", "doing"] ["ship", "p"] (defScope sChoices) := ⟨rfl, rfl, rfl, by decide +kernel, rfl, by decide +kernel, by decide +kernel⟩
theorem ok_tChoices {f fW fB Pt : Addr} {fd dW dB : FuncData} {fa : Nat → Addr} {fds : Nat → FuncData} (F : Fun K "tell_choices" "tell_choices" sChoices f fd) (T : Txt K C) (M : Ms P w K mg base C fa fds) (DW : Df P w K mg base 2 "wish_of" ["ship", "p", "cabins"] (spWishOf C) fW dW) (DB : Df P w K mg base 1 "bits_of" ["numbers"] spBits fB dB)
    (ml : mg "len" = none) (n2 : Cn mg "NOT_THERE" (-2)) : FnOk P w K mg base CX0 5 f fd ["ship", "p"] (spAsk C Pt 1 (mk1 .choices)) := by
  refine F.ok scChoices (fun vs H Q E h => ?_) (fun cdv A outer s H vs Q E hr h => ?_)
  · obtain ⟨a, z, s, ns, rfl, hn, _⟩ := h
    obtain ⟨p, rfl⟩ := len1 hn
    rfl
  obtain ⟨a, z, sh, ns, rfl, hn, hS, hW, hT, q⟩ := h
  obtain ⟨p, rfl⟩ := len1 hn
  obtain ⟨u2, m2, r2⟩ := n2
  have hr1 : Room 1 _ := hr.mono (by decide)
  refine ⟨_, pss_cons (ps_if (pt_not (pt_val (pe_meth (pv 0) T.cS M.hasP.mt M.hasP.ok hr M.hasP.b .nil pass0 (pa_cons (pv 1) pa_nil)))) (pss_one (ps_ret (pe_lst (pa_cons (pe_glob rfl m2 r2) pa_nil)))) pss_nil)
    (pss_cons (ps_set (i := 2) scChoices.nd rfl (Or.inl rfl) (pe_call DW.ok (hr.mono (by decide)) rfl DW.m DW.kp DW.b .nil pass0 (pa_cons (pv 0) (pa_cons (pv 1) (pa_cons (pe_meth0 (pv 0) T.cS M.allC.mt M.allC.ok hr M.allC.b .nil pass0) pa_nil)))))
    (pss_one (ps_ret (pe_lst (pa_cons (pe_callB call_len_seq rfl ml PySem.boot_len (pa_cons (pv 2) pa_nil)) (pa_cons (pe_call DB.ok hr1 rfl DB.m DB.kp DB.b .nil pass0 (pa_cons (pv 2) pa_nil))
      (pa_cons (pe_call DB.ok hr1 rfl DB.m DB.kp DB.b .nil pass0 (pa_cons (pe_meth (pv 0) T.cS M.frA.mt M.frA.ok hr M.frA.b .nil pass0 (pa_cons (pv 2) pa_nil)) pa_nil)) pa_nil))))))), ?_⟩
  have q : ∀ (H' : Hp) (r : Addr), H r = none → SameT Pt H H' → Tab Pt H' → H' r = some (.lst ((askL sh (.choices p)).map V.int)) → Q (.ref r) H' := q
  refine ⟨_, rfl, a, z.dx, _, rfl, hS.ship, ship_no (by decide) (by decide), _, rfl, a, z, sh, p, rfl, hS, _, rfl, ?_⟩
  cases hp : sh.is p with
  | false =>
    have e : askL sh (.choices p) = [-2] := by unfold askL act; dsimp only; rw [if_pos hp]; rfl
    rw [e] at q
    exact yes rfl (ask_fin q (Same.t (same_refl H)) hT rfl (by decide))
  | true =>
    have c0 : ¬ sh.is p = false := by rw [hp]; simp
    have hpl := is_lt hp
    have hfw : (wishL sh (List.range sh.cabins.length) p).filter sh.free = (wishL sh (List.range sh.cabins.length) p).filter fun k => (sh.who k).isNone :=
      List.filter_congr fun k hk => free_who (List.mem_range.mp (List.mem_filter.mp hk).1)
    have e : askL sh (.choices p) = [((wishL sh (List.range sh.cabins.length) p).length : Int), ((Km437.bits (wishL sh (List.range sh.cabins.length) p) : Nat) : Int), ((Km437.bits ((wishL sh (List.range sh.cabins.length) p).filter fun k => (sh.who k).isNone) : Nat) : Int)] := by
      rw [← hfw]
      unfold askL act
      dsimp only
      rw [if_neg c0]
      rfl
    rw [e] at q
    have hlen : (wishL sh (List.range sh.cabins.length) p).length ≤ 12 := Nat.le_trans (lenN _) hW.cab
    have hlt : ∀ k, k ∈ wishL sh (List.range sh.cabins.length) p → k < 12 := fun k hk => Nat.lt_of_lt_of_le (List.mem_range.mp (List.mem_filter.mp hk).1) hW.cab
    refine no rfl ⟨_, rfl, _, rfl, _, rfl, a, z.dx, _, rfl, hS.ship, ship_no (by decide) (by decide), a, z, sh, rfl, hS, hW.cab, fun H1 r1 n1 s1 hr1 => ?_⟩
    refine ⟨a, r1, z, sh, p, _, rfl, hS.same s1, hpl, hr1, by rw [List.length_range]; exact hW.cab, fun k hk => List.mem_range.mp hk, fun H2 r2 n2 s2 hr2 => ?_⟩
    have s12 := s1.trans s2
    refine ⟨_, rfl, r2, _, rfl, .inl (SqL.of hr2), _, rfl, r2, _, rfl, hr2, hlen, hlt, fun H3 s3 => ?_⟩
    have s13 := s12.trans s3
    refine ⟨_, rfl, a, z.dx, _, rfl, s13 _ _ hS.ship, ship_no (by decide) (by decide), _, rfl, a, r2, z, sh, _, rfl, hS.same s13, hW.par, s3 _ _ hr2, hlen, fun H4 r4 n4 s4 hr4 => ?_⟩
    refine ⟨r4, _, rfl, hr4, Nat.le_trans (List.length_filter_le _ _) hlen, fun k hk => hlt k (List.mem_filter.mp hk).1, fun H5 s5 => ?_⟩
    have s15 := (s13.trans s4).trans s5
    exact ask_fin q (Same.t s15) (hT.same s15) (by rw [List.length_map]; rfl) (by show 3 ≤ 9; decide)
theorem scTBeside : FnScope ["ship", "k", "beside", "other"] ["ship", "k"] (defScope sTBeside) := ⟨rfl, rfl, rfl, by decide +kernel, rfl, by decide +kernel, by decide +kernel⟩
theorem ok_tBeside {f fB Pt : Addr} {fd dB : FuncData} {fa : Nat → Addr} {fds : Nat → FuncData} (F : Fun K "tell_beside" "tell_beside" sTBeside f fd) (T : Txt K C) (M : Ms P w K mg base C fa fds) (DB : Df P w K mg base 1 "bits_of" ["numbers"] spBits fB dB)
    (ml : mg "len" = none) (n2 : Cn mg "NOT_THERE" (-2)) : FnOk P w K mg base CX0 5 f fd ["ship", "k"] (spAsk C Pt 1 (mk1 .beside)) := by
  refine F.ok scTBeside (fun vs H Q E h => ?_) (fun cdv A outer s H vs Q E hr h => ?_)
  · obtain ⟨a, z, s, ns, rfl, hn, _⟩ := h
    obtain ⟨p, rfl⟩ := len1 hn
    rfl
  obtain ⟨a, z, sh, ns, rfl, hn, hS, hW, hT, q⟩ := h
  obtain ⟨k, rfl⟩ := len1 hn
  obtain ⟨u2, m2, r2⟩ := n2
  have hr1 : Room 1 _ := hr.mono (by decide)
  refine ⟨_, pss_cons (ps_if (pt_not (pt_val (pe_meth (pv 0) T.cS M.hasC.mt M.hasC.ok hr M.hasC.b .nil pass0 (pa_cons (pv 1) pa_nil)))) (pss_one (ps_ret (pe_lst (pa_cons (pe_glob rfl m2 r2) pa_nil)))) pss_nil)
    (pss_cons (ps_setLc (i := 2) (own := [("other", 3)]) rfl scTBeside.nd rfl rfl (sw_true rfl rfl rfl rfl) (pi_list (pe_meth0 (pv 0) T.cS M.allC.mt M.allC.ok hr M.allC.b .nil pass0)) (blkOk_by rfl) (fun _ _ _ _ _ => pg_name (i := 3) scTBeside.nd rfl (Or.inl rfl))
      (fun _ _ _ _ _ => pts_one (pt_val (pe_meth (pv 0) T.cS M.bes.mt M.bes.ok hr M.bes.b .nil pass0 (pa_cons (pv 1) (pa_cons (pv 3) pa_nil))))) (fun _ _ _ _ _ => pv 3))
    (pss_one (ps_ret (pe_lst (pa_cons (pe_callB call_len_seq rfl ml PySem.boot_len (pa_cons (pv 2) pa_nil)) (pa_cons (pe_call DB.ok hr1 rfl DB.m DB.kp DB.b .nil pass0 (pa_cons (pv 2) pa_nil))
      (pa_cons (pe_call DB.ok hr1 rfl DB.m DB.kp DB.b .nil pass0 (pa_cons (pe_meth (pv 0) T.cS M.frA.mt M.frA.ok hr M.frA.b .nil pass0 (pa_cons (pv 2) pa_nil)) pa_nil)) pa_nil))))))), ?_⟩
  have q : ∀ (H' : Hp) (r : Addr), H r = none → SameT Pt H H' → Tab Pt H' → H' r = some (.lst ((askL sh (.beside k)).map V.int)) → Q (.ref r) H' := q
  refine ⟨_, rfl, a, z.dx, _, rfl, hS.ship, ship_no (by decide) (by decide), _, rfl, a, z, sh, k, rfl, hS, _, rfl, ?_⟩
  by_cases hk : k < sh.cabins.length
  · rw [decide_eq_true hk]
    have c0 : ¬ sh.cabins.length ≤ k := by omega
    have hfw : ((List.range sh.cabins.length).filter fun j => Km437.beside (sh.cabin k) (sh.cabin j)).filter sh.free = ((List.range sh.cabins.length).filter fun j => Km437.beside (sh.cabin k) (sh.cabin j)).filter fun k => (sh.who k).isNone :=
      List.filter_congr fun k hk => free_who (List.mem_range.mp (List.mem_filter.mp hk).1)
    have e : askL sh (.beside k) = [(((List.range sh.cabins.length).filter fun j => Km437.beside (sh.cabin k) (sh.cabin j)).length : Int), ((Km437.bits ((List.range sh.cabins.length).filter fun j => Km437.beside (sh.cabin k) (sh.cabin j)) : Nat) : Int), ((Km437.bits (((List.range sh.cabins.length).filter fun j => Km437.beside (sh.cabin k) (sh.cabin j)).filter fun k => (sh.who k).isNone) : Nat) : Int)] := by
      rw [← hfw]
      unfold askL act
      dsimp only
      rw [if_neg c0]
      rfl
    rw [e] at q
    have hlen : ((List.range sh.cabins.length).filter fun j => Km437.beside (sh.cabin k) (sh.cabin j)).length ≤ 12 := Nat.le_trans (lenN _) hW.cab
    have hlt : ∀ j, j ∈ ((List.range sh.cabins.length).filter fun j => Km437.beside (sh.cabin k) (sh.cabin j)) → j < 12 := fun j hj => Nat.lt_of_lt_of_le (List.mem_range.mp (List.mem_filter.mp hj).1) hW.cab
    refine no rfl ⟨_, rfl, a, z.dx, _, rfl, hS.ship, ship_no (by decide) (by decide), a, z, sh, rfl, hS, hW.cab, fun H1 r1 n1 s1 hr1 => ?_⟩
    refine ⟨r1, rfl, ⟨_, SqL.of hr1⟩, fun D hD => ?_⟩
    have sD : Same H1 (upd H1 D (.lst [])) := same_new hD _
    refine lc_list (K := K) (a := r1) (xs := (List.range sh.cabins.length).map nV) (fun i H' => Same H1 H' ∧ LstN H' D (((List.range sh.cabins.length).take i).filter fun j => Km437.beside (sh.cabin k) (sh.cabin j))) ⟨sD, upd_same⟩ (fun i H' _ h => SqL.of (h.1 _ _ hr1)) ?_ ?_
    · rintro i y H' hi ⟨s2, hD2⟩
      obtain ⟨j, hj, rfl⟩ := map_nV hi
      have s12 := s1.trans s2
      refine ⟨rfl, _, rfl, a, z.dx, _, rfl, s12 _ _ hS.ship, ship_no (by decide) (by decide), _, rfl, _, rfl, a, z, sh, k, j, rfl, hS.same s12, hk, List.mem_range.mp (List.mem_of_getElem? hj), _, rfl, ?_⟩
      have es := filter_snoc (fun j => Km437.beside (sh.cabin k) (sh.cabin j)) hj
      cases e : Km437.beside (sh.cabin k) (sh.cabin j) with
      | true =>
        rw [e, if_pos rfl] at es
        refine yes rfl ⟨_, rfl, _, hD2, ?_, fun b u e => by rw [upd_ne (ne_of_none e hD)]; exact s2 b u e, ?_⟩
        · rw [List.length_map]
          exact small1000 (Nat.le_trans (List.length_filter_le _ _) (by rw [List.length_take, List.length_range]; have := hW.cab; omega))
        · show upd H' D _ D = _
          rw [upd_same, es, List.map_append]
          rfl
      | false =>
        rw [e, if_neg Bool.false_ne_true, List.append_nil] at es
        exact no rfl ⟨s2, by rw [es]; exact hD2⟩
    · rintro H2 ⟨s2, hr2⟩
      rw [List.length_map, List.take_length] at hr2
      have s12 := s1.trans s2
      refine ⟨_, rfl, D, _, rfl, .inl (SqL.of hr2), _, rfl, D, _, rfl, hr2, hlen, hlt, fun H3 s3 => ?_⟩
      have s13 := s12.trans s3
      refine ⟨_, rfl, a, z.dx, _, rfl, s13 _ _ hS.ship, ship_no (by decide) (by decide), _, rfl, a, D, z, sh, _, rfl, hS.same s13, hW.par, s3 _ _ hr2, hlen, fun H4 r4 n4 s4 hr4 => ?_⟩
      refine ⟨r4, _, rfl, hr4, Nat.le_trans (List.length_filter_le _ _) hlen, fun k hk => hlt k (List.mem_filter.mp hk).1, fun H5 s5 => ?_⟩
      have s15 := (s13.trans s4).trans s5
      exact ask_fin q (Same.t s15) (hT.same s15) (by rw [List.length_map]; rfl) (by show 3 ≤ 9; decide)
  · rw [decide_eq_false hk]
    have c0 : sh.cabins.length ≤ k := by omega
    have e : askL sh (.beside k) = [-2] := by unfold askL act; dsimp only; rw [if_pos c0]; rfl
    rw [e] at q
    exact yes rfl (ask_fin q (Same.t (same_refl H)) hT rfl (by decide))
theorem scWho : FnScope ["ship", "k", "p"] ["ship", "k"] (defScope sWho) := ⟨rfl, rfl, rfl, by decide +kernel, rfl, by decide +kernel, by decide +kernel⟩
theorem ok_tWho {f Pt : Addr} {fd : FuncData} {fa : Nat → Addr} {fds : Nat → FuncData} (F : Fun K "tell_who" "tell_who" sWho f fd) (T : Txt K C) (M : Ms P w K mg base C fa fds) (n2 : Cn mg "NOT_THERE" (-2)) (n6 : Cn mg "NOBODY" (-6)) : FnOk P w K mg base CX0 5 f fd ["ship", "k"] (spAsk C Pt 1 (mk1 .who)) := by
  refine F.ok scWho (fun vs H Q E h => ?_) (fun cdv A outer s H vs Q E hr h => ?_)
  · obtain ⟨a, z, s, ns, rfl, hn, _⟩ := h
    obtain ⟨p, rfl⟩ := len1 hn
    rfl
  obtain ⟨a, z, sh, ns, rfl, hn, hS, hW, hT, q⟩ := h
  obtain ⟨k, rfl⟩ := len1 hn
  obtain ⟨u2, m2, r2⟩ := n2
  obtain ⟨u6, m6, r6⟩ := n6
  refine ⟨_, pss_cons (ps_if (pt_not (pt_val (pe_meth (pv 0) T.cS M.hasC.mt M.hasC.ok hr M.hasC.b .nil pass0 (pa_cons (pv 1) pa_nil)))) (pss_one (ps_ret (pe_lst (pa_cons (pe_glob rfl m2 r2) pa_nil)))) pss_nil)
    (pss_cons (ps_if (pt_val (pe_meth (pv 0) T.cS M.isF.mt M.isF.ok hr M.isF.b .nil pass0 (pa_cons (pv 1) pa_nil))) (pss_one (ps_ret (pe_lst (pa_cons (pe_glob rfl m6 r6) pa_nil)))) pss_nil)
    (pss_cons (ps_set (i := 2) scWho.nd rfl (Or.inl rfl) (pe_meth (pv 0) T.cS M.hol.mt M.hol.ok hr M.hol.b .nil pass0 (pa_cons (pv 1) pa_nil)))
    (pss_one (ps_ret (pe_lst (pa_cons (pv 2) (pa_cons (pe_fld (pe_ix ix_list (pe_fld (pv 0) rfl) (pv 2) (fun _ _ => rfl)) rfl) pa_nil))))))), ?_⟩
  have q : ∀ (H' : Hp) (r : Addr), H r = none → SameT Pt H H' → Tab Pt H' → H' r = some (.lst ((askL sh (.who k)).map V.int)) → Q (.ref r) H' := q
  refine ⟨_, rfl, a, z.dx, _, rfl, hS.ship, ship_no (by decide) (by decide), _, rfl, a, z, sh, k, rfl, hS, _, rfl, ?_⟩
  by_cases hk : k < sh.cabins.length
  · rw [decide_eq_true hk]
    have c0 : ¬ sh.cabins.length ≤ k := by omega
    refine no rfl ⟨_, rfl, a, z.dx, _, rfl, hS.ship, ship_no (by decide) (by decide), _, rfl, a, z, sh, k, rfl, hS, hW.par, _, rfl, ?_⟩
    cases hw : sh.who k with
    | none =>
      have e : askL sh (.who k) = [-6] := by unfold askL act; dsimp only; rw [if_neg c0, hw]; rfl
      rw [e] at q
      exact yes rfl (ask_fin q (Same.t (same_refl H)) hT rfl (by decide))
    | some p =>
      have e : askL sh (.who k) = [(p : Int), (((sh.party p).many : Nat) : Int)] := by unfold askL act; dsimp only; rw [if_neg c0, hw]; rfl
      rw [e] at q
      have hp : p < sh.parties.length := by
        unfold Ship.who at hw
        exact List.mem_range.mp (List.mem_of_find?_eq_some hw)
      obtain ⟨b, dx, hb, hb2⟩ := hS.parAt hp
      refine no rfl ⟨_, rfl, a, z.dx, _, rfl, hS.ship, ship_no (by decide) (by decide), _, rfl, a, z, sh, k, rfl, hS, hW.par, ?_⟩
      rw [hw]
      refine ⟨_, rfl, _, rfl, a, C.S, z.dx, _, _, rfl, hS.ship, T.cS, T.s2, ship_parties _ _, _, rfl, z.lp, _, _, _, rfl, rfl, SqL.of hS.lp, list_at hb, b, C.P, dx, _, _, rfl, hb2, T.cP, T.p1, par_many _, ?_⟩
      exact ask_fin q (Same.t (same_refl H)) hT rfl (by show 2 ≤ 9; decide)
  · rw [decide_eq_false hk]
    have c0 : sh.cabins.length ≤ k := by omega
    have e : askL sh (.who k) = [-2] := by unfold askL act; dsimp only; rw [if_pos c0]; rfl
    rw [e] at q
    exact yes rfl (ask_fin q (Same.t (same_refl H)) hT rfl (by decide))
theorem scLook : FnScope ["ship", "p", "party"] ["ship", "p"] (defScope sLook) := ⟨rfl, rfl, rfl, by decide +kernel, rfl, by decide +kernel, by decide +kernel⟩
theorem ok_tLook {f fT Pt : Addr} {fd dT : FuncData} {fa : Nat → Addr} {fds : Nat → FuncData} (F : Fun K "tell_look" "tell_look" sLook f fd) (T : Txt K C) (M : Ms P w K mg base C fa fds) (DT : Df P w K mg base 1 "told_cabin" ["cabin"] spTold fT dT) (n2 : Cn mg "NOT_THERE" (-2)) : FnOk P w K mg base CX0 5 f fd ["ship", "p"] (spAsk C Pt 1 (mk1 .look)) := by
  refine F.ok scLook (fun vs H Q E h => ?_) (fun cdv A outer s H vs Q E hr h => ?_)
  · obtain ⟨a, z, s, ns, rfl, hn, _⟩ := h
    obtain ⟨p, rfl⟩ := len1 hn
    rfl
  obtain ⟨a, z, sh, ns, rfl, hn, hS, hW, hT, q⟩ := h
  obtain ⟨p, rfl⟩ := len1 hn
  obtain ⟨u2, m2, r2⟩ := n2
  refine ⟨_, pss_cons (ps_if (pt_not (pt_val (pe_meth (pv 0) T.cS M.hasP.mt M.hasP.ok hr M.hasP.b .nil pass0 (pa_cons (pv 1) pa_nil)))) (pss_one (ps_ret (pe_lst (pa_cons (pe_glob rfl m2 r2) pa_nil)))) pss_nil)
    (pss_cons (ps_set (i := 2) scLook.nd rfl (Or.inl rfl) (pe_ix ix_list (pe_fld (pv 0) rfl) (pv 1) (fun _ _ => rfl)))
    (pss_one (ps_ret (pe_lst (pa_cons (pe_fld (pv 2) rfl) (pa_cons (pe_fld (pv 2) rfl) (pa_cons (pe_fld (pv 2) rfl) (pa_cons (pe_call DT.ok (hr.mono (by decide)) rfl DT.m DT.kp DT.b .nil pass0 (pa_cons (pe_fld (pv 2) rfl) pa_nil)) pa_nil)))))))), ?_⟩
  have q : ∀ (H' : Hp) (r : Addr), H r = none → SameT Pt H H' → Tab Pt H' → H' r = some (.lst ((askL sh (.look p)).map V.int)) → Q (.ref r) H' := q
  refine ⟨_, rfl, a, z.dx, _, rfl, hS.ship, ship_no (by decide) (by decide), _, rfl, a, z, sh, p, rfl, hS, _, rfl, ?_⟩
  cases hp : sh.is p with
  | false =>
    have e : askL sh (.look p) = [-2] := by unfold askL act; dsimp only; rw [if_pos hp]; rfl
    rw [e] at q
    exact yes rfl (ask_fin q (Same.t (same_refl H)) hT rfl (by decide))
  | true =>
    have c0 : ¬ sh.is p = false := by rw [hp]; simp
    have hpl := is_lt hp
    obtain ⟨b, dx, hb, hb2⟩ := hS.parAt hpl
    refine no rfl ⟨_, rfl, a, C.S, z.dx, _, _, rfl, hS.ship, T.cS, T.s2, ship_parties _ _, _, rfl, z.lp, _, _, _, rfl, rfl, SqL.of hS.lp, list_at hb, ?_⟩
    refine ⟨_, rfl, b, C.P, dx, _, _, rfl, hb2, T.cP, T.p1, par_many _, _, rfl, b, C.P, dx, _, _, rfl, hb2, T.cP, T.p2, par_rank _, _, rfl, b, C.P, dx, _, _, rfl, hb2, T.cP, T.p3, par_flat _, _, rfl, b, C.P, dx, _, _, rfl, hb2, T.cP, T.p4, par_cabin _, _, rfl, ?_⟩
    have e : askL sh (.look p) = [(((sh.party p).many : Nat) : Int), (((sh.party p).rank : Nat) : Int), ((Km437.bit (sh.party p).flat : Nat) : Int), ((match (sh.party p).cabin with | some k => k + 1 | none => 0 : Nat) : Int)] := by
      unfold askL act
      dsimp only
      rw [if_neg c0]
      cases (sh.party p).cabin <;> rfl
    rw [e] at q
    exact ask_fin q (Same.t (same_refl H)) hT rfl (by show 4 ≤ 9; decide)
theorem scSee : FnScope ["ship", "k", "cabin"] ["ship", "k"] (defScope sSee) := ⟨rfl, rfl, rfl, by decide +kernel, rfl, by decide +kernel, by decide +kernel⟩
theorem ok_tSee {f Pt : Addr} {fd : FuncData} {fa : Nat → Addr} {fds : Nat → FuncData} (F : Fun K "tell_see" "tell_see" sSee f fd) (T : Txt K C) (M : Ms P w K mg base C fa fds) (n2 : Cn mg "NOT_THERE" (-2)) : FnOk P w K mg base CX0 5 f fd ["ship", "k"] (spAsk C Pt 1 (mk1 .see)) := by
  refine F.ok scSee (fun vs H Q E h => ?_) (fun cdv A outer s H vs Q E hr h => ?_)
  · obtain ⟨a, z, s, ns, rfl, hn, _⟩ := h
    obtain ⟨p, rfl⟩ := len1 hn
    rfl
  obtain ⟨a, z, sh, ns, rfl, hn, hS, hW, hT, q⟩ := h
  obtain ⟨k, rfl⟩ := len1 hn
  obtain ⟨u2, m2, r2⟩ := n2
  refine ⟨_, pss_cons (ps_if (pt_not (pt_val (pe_meth (pv 0) T.cS M.hasC.mt M.hasC.ok hr M.hasC.b .nil pass0 (pa_cons (pv 1) pa_nil)))) (pss_one (ps_ret (pe_lst (pa_cons (pe_glob rfl m2 r2) pa_nil)))) pss_nil)
    (pss_cons (ps_set (i := 2) scSee.nd rfl (Or.inl rfl) (pe_ix ix_list (pe_fld (pv 0) rfl) (pv 1) (fun _ _ => rfl)))
    (pss_one (ps_ret (pe_lst (pa_cons (pe_fld (pv 2) rfl) (pa_cons (pe_fld (pv 2) rfl) (pa_cons (pe_fld (pv 2) rfl) (pa_cons (pe_fld (pv 2) rfl) (pa_cons (pe_fld (pv 2) rfl) (pa_cons (pe_fld (pv 2) rfl) pa_nil)))))))))), ?_⟩
  have q : ∀ (H' : Hp) (r : Addr), H r = none → SameT Pt H H' → Tab Pt H' → H' r = some (.lst ((askL sh (.see k)).map V.int)) → Q (.ref r) H' := q
  refine ⟨_, rfl, a, z.dx, _, rfl, hS.ship, ship_no (by decide) (by decide), _, rfl, a, z, sh, k, rfl, hS, _, rfl, ?_⟩
  by_cases hk : k < sh.cabins.length
  · rw [decide_eq_true hk]
    have c0 : ¬ sh.cabins.length ≤ k := by omega
    obtain ⟨b, dx, hb, hb2⟩ := hS.cabAt hk
    refine no rfl ⟨_, rfl, a, C.S, z.dx, _, _, rfl, hS.ship, T.cS, T.s1, ship_cabins _ _, _, rfl, z.lc, _, _, _, rfl, rfl, SqL.of hS.lc, list_at hb, ?_⟩
    refine ⟨_, rfl, b, C.C, dx, _, _, rfl, hb2, T.cC, T.c3, cab_rank _, _, rfl, b, C.C, dx, _, _, rfl, hb2, T.cC, T.c4, cab_berths _, _, rfl, b, C.C, dx, _, _, rfl, hb2, T.cC, T.c1, cab_deck _, _, rfl, b, C.C, dx, _, _, rfl, hb2, T.cC, T.c2, cab_place _, _, rfl, b, C.C, dx, _, _, rfl, hb2, T.cC, T.c5, cab_flat _, _, rfl, b, C.C, dx, _, _, rfl, hb2, T.cC, T.c6, cab_out _, ?_⟩
    have e : askL sh (.see k) = [(((sh.cabin k).rank : Nat) : Int), (((sh.cabin k).berths : Nat) : Int), (((sh.cabin k).deck : Nat) : Int), (((sh.cabin k).place : Nat) : Int), ((Km437.bit (sh.cabin k).flat : Nat) : Int), ((Km437.bit (sh.cabin k).shut : Nat) : Int)] := by
      unfold askL act
      dsimp only
      rw [if_neg c0]
      rfl
    rw [e] at q
    exact ask_fin q (Same.t (same_refl H)) hT rfl (by show 6 ≤ 9; decide)
  · rw [decide_eq_false hk]
    have c0 : sh.cabins.length ≤ k := by omega
    have e : askL sh (.see k) = [-2] := by unfold askL act; dsimp only; rw [if_pos c0]; rfl
    rw [e] at q
    exact yes rfl (ask_fin q (Same.t (same_refl H)) hT rfl (by decide))
end
end Cg

end
section
set_option Elab.async false
set_option linter.all false
set_option maxRecDepth 100000
set_option maxHeartbeats 4000000
namespace Cg
open PySem PySem.Spec PyProof.Rows L2
open Km437 (Cabin Party Ship Desk Call act)
abbrev sTFrees : Stmt := top 58
abbrev sTBetter : Stmt := top 59
abbrev sSums : Stmt := top 60
def mk0 (x : Call) : List Nat → Call := fun _ => x
def upF (s : Ship) (p : Nat) : Bool := match (s.party p).cabin with
  | some k => decide ((s.party p).rank < (s.cabin k).rank)
  | none => false
def housedL (s : Ship) : List Nat := (List.range s.parties.length).filter fun p => (s.party p).cabin.isSome
theorem up_eq (s : Ship) : s.upgraded = (housedL s).filter (upF s) := by
  unfold Ship.upgraded housedL
  rw [List.filter_filter]
  refine List.filter_congr fun p _ => ?_
  unfold upF
  cases (s.party p).cabin with
  | none => rfl
  | some k => exact (Bool.and_true _).symm
theorem notfree_len (s : Ship) : ((List.range s.cabins.length).filter fun k => !(s.free k)).length + s.frees.length = s.cabins.length := by
  unfold Ship.frees
  have h := List.length_eq_countP_add_countP s.free (l := List.range s.cabins.length)
  rw [List.length_range, List.countP_eq_length_filter, List.countP_eq_length_filter] at h
  have e : ((List.range s.cabins.length).filter fun k => !(s.free k)) = (List.range s.cabins.length).filter fun a => decide ¬ s.free a = true := List.filter_congr fun k _ => by
    cases s.free k <;> rfl
  rw [e]
  omega
theorem foldl_sum : ∀ (l : List Nat) (acc : Nat), ((l.foldl (· + ·) acc : Nat) : Int) = (acc : Int) + (l.map fun n : Nat => (n : Int)).sum
  | [], acc => by simp
  | k :: l, acc => by
    rw [List.foldl_cons, foldl_sum l, List.map_cons, List.sum_cons]
    omega
section
variable {P : Program} {w : World} {K : PySem.W.Frag} {mg : Str → Option Value} {base : Heap} {C : Cl}
theorem scTFrees : FnScope ["ship", "free"] ["ship"] (defScope sTFrees) := ⟨rfl, rfl, rfl, by decide +kernel, rfl, by decide +kernel, by decide +kernel⟩
theorem ok_tFrees {f fB Pt : Addr} {fd dB : FuncData} {fa : Nat → Addr} {fds : Nat → FuncData} (F : Fun K "tell_frees" "tell_frees" sTFrees f fd) (T : Txt K C) (M : Ms P w K mg base C fa fds) (DB : Df P w K mg base 1 "bits_of" ["numbers"] spBits fB dB) (ml : mg "len" = none) : FnOk P w K mg base CX0 5 f fd ["ship"] (spAsk C Pt 0 (mk0 .frees)) := by
  refine F.ok scTFrees (fun vs H Q E h => ?_) (fun cdv A outer s H vs Q E hr h => ?_)
  · obtain ⟨a, z, s, ns, rfl, hn, _⟩ := h
    rw [List.length_eq_zero_iff.mp hn]
    rfl
  obtain ⟨a, z, sh, ns, rfl, hn, hS, hW, hT, q⟩ := h
  have en := List.length_eq_zero_iff.mp hn
  subst en
  have hr1 : Room 1 _ := hr.mono (by decide)
  refine ⟨_, pss_cons (ps_set (i := 1) scTFrees.nd rfl (Or.inl rfl) (pe_meth0 (pv 0) T.cS M.fr.mt M.fr.ok hr M.fr.b .nil pass0))
    (pss_one (ps_ret (pe_lst (pa_cons (pe_callB call_len_seq rfl ml PySem.boot_len (pa_cons (pv 1) pa_nil)) (pa_cons (pe_call DB.ok hr1 rfl DB.m DB.kp DB.b .nil pass0 (pa_cons (pv 1) pa_nil))
      (pa_cons (pe_call DB.ok hr1 rfl DB.m DB.kp DB.b .nil pass0 (pa_cons (pe_meth0 (pv 0) T.cS M.wt.mt M.wt.ok hr M.wt.b .nil pass0) pa_nil)) pa_nil)))))), ?_⟩
  have q : ∀ (H' : Hp) (r : Addr), H r = none → SameT Pt H H' → Tab Pt H' → H' r = some (.lst ((askL sh .frees).map V.int)) → Q (.ref r) H' := q
  have e : askL sh .frees = [((sh.frees.length : Nat) : Int), ((Km437.bits sh.frees : Nat) : Int), ((Km437.bits sh.waits : Nat) : Int)] := rfl
  rw [e] at q
  refine ⟨_, rfl, a, z.dx, _, rfl, hS.ship, ship_no (by decide) (by decide), a, z, sh, rfl, hS, hW.cab, hW.par, fun H1 r1 n1 s1 hr1 => ?_⟩
  refine ⟨_, rfl, r1, _, rfl, .inl (SqL.of hr1), _, rfl, r1, _, rfl, hr1, Nat.le_trans (frees_len sh) hW.cab, fun k hk => Nat.lt_of_lt_of_le (frees_lt hk) hW.cab, fun H2 s2 => ?_⟩
  have s12 := s1.trans s2
  refine ⟨_, rfl, a, z.dx, _, rfl, s12 _ _ hS.ship, ship_no (by decide) (by decide), a, z, sh, rfl, hS.same s12, hW.par, fun H3 r3 n3 s3 hr3 => ?_⟩
  refine ⟨r3, _, rfl, hr3, Nat.le_trans (waits_len sh) (Nat.le_trans hW.par (by decide)), fun k hk => Nat.lt_of_lt_of_le (waits_lt hk) (Nat.le_trans hW.par (by decide)), fun H4 s4 => ?_⟩
  have s14 := (s12.trans s3).trans s4
  exact ask_fin q (Same.t s14) (hT.same s14) (by rw [List.length_map]; rfl) (by show 3 ≤ 9; decide)
theorem scTBetter : FnScope ["ship", "better", "p"] ["ship"] (defScope sTBetter) := ⟨rfl, rfl, rfl, by decide +kernel, rfl, by decide +kernel, by decide +kernel⟩
theorem ok_tBetter {f fB Pt : Addr} {fd dB : FuncData} {fa : Nat → Addr} {fds : Nat → FuncData} (F : Fun K "tell_better" "tell_better" sTBetter f fd) (T : Txt K C) (M : Ms P w K mg base C fa fds) (DB : Df P w K mg base 1 "bits_of" ["numbers"] spBits fB dB) (ml : mg "len" = none) : FnOk P w K mg base CX0 5 f fd ["ship"] (spAsk C Pt 0 (mk0 .better)) := by
  refine F.ok scTBetter (fun vs H Q E h => ?_) (fun cdv A outer s H vs Q E hr h => ?_)
  · obtain ⟨a, z, s, ns, rfl, hn, _⟩ := h
    rw [List.length_eq_zero_iff.mp hn]
    rfl
  obtain ⟨a, z, sh, ns, rfl, hn, hS, hW, hT, q⟩ := h
  have en := List.length_eq_zero_iff.mp hn
  subst en
  have hr1 : Room 1 _ := hr.mono (by decide)
  refine ⟨_, pss_cons (ps_setLc (i := 1) (own := [("p", 2)]) rfl scTBetter.nd rfl rfl (sw_true rfl rfl rfl rfl) (pi_list (pe_meth0 (pv 0) T.cS M.hou.mt M.hou.ok hr M.hou.b .nil pass0)) (blkOk_by rfl) (fun _ _ _ _ _ => pg_name (i := 2) scTBetter.nd rfl (Or.inl rfl))
      (fun _ _ _ _ _ => pts_one (pt_val (pe_meth (pv 0) T.cS M.bet.mt M.bet.ok hr M.bet.b .nil pass0 (pa_cons (pv 2) pa_nil)))) (fun _ _ _ _ _ => pv 2))
    (pss_one (ps_ret (pe_lst (pa_cons (pe_callB call_len_seq rfl ml PySem.boot_len (pa_cons (pv 1) pa_nil)) (pa_cons (pe_call DB.ok hr1 rfl DB.m DB.kp DB.b .nil pass0 (pa_cons (pv 1) pa_nil)) pa_nil))))), ?_⟩
  have q : ∀ (H' : Hp) (r : Addr), H r = none → SameT Pt H H' → Tab Pt H' → H' r = some (.lst ((askL sh .better).map V.int)) → Q (.ref r) H' := q
  have e : askL sh .better = [((sh.upgraded.length : Nat) : Int), ((Km437.bits sh.upgraded : Nat) : Int)] := rfl
  rw [e, up_eq] at q
  have hlen8 : (housedL sh).length ≤ 8 := Nat.le_trans (lenN _) hW.par
  have hlt : ∀ p, p ∈ housedL sh → p < sh.parties.length ∧ ∃ k, (sh.party p).cabin = some k := fun p hp => by
    have hp := List.mem_filter.mp hp
    refine ⟨List.mem_range.mp hp.1, ?_⟩
    cases ec : (sh.party p).cabin with
    | none =>
      have h2 := hp.2
      rw [ec] at h2
      cases h2
    | some k => exact ⟨k, rfl⟩
  refine ⟨_, rfl, a, z.dx, _, rfl, hS.ship, ship_no (by decide) (by decide), a, z, sh, rfl, hS, hW.par, fun H1 r1 n1 s1 hr1 => ?_⟩
  have hr1 : LstN H1 r1 (housedL sh) := hr1
  refine ⟨r1, rfl, ⟨_, SqL.of hr1⟩, fun D hD => ?_⟩
  have sD : Same H1 (upd H1 D (.lst [])) := same_new hD _
  refine lc_list (K := K) (a := r1) (xs := (housedL sh).map nV) (fun i H' => Same H1 H' ∧ LstN H' D (((housedL sh).take i).filter (upF sh))) ⟨sD, upd_same⟩ (fun i H' _ h => SqL.of (h.1 _ _ hr1)) ?_ ?_
  · rintro i y H' hi ⟨s2, hD2⟩
    obtain ⟨p, hp, rfl⟩ := map_nV hi
    have s12 := s1.trans s2
    obtain ⟨hpl, k, hk⟩ := hlt p (List.mem_of_getElem? hp)
    refine ⟨rfl, _, rfl, a, z.dx, _, rfl, s12 _ _ hS.ship, ship_no (by decide) (by decide), _, rfl, a, z, sh, p, k, rfl, hS.same s12, hpl, hk, hW.has p k hk, _, rfl, ?_⟩
    have es := filter_snoc (upF sh) hp
    have eu : upF sh p = decide ((sh.party p).rank < (sh.cabin k).rank) := by
      unfold upF
      rw [hk]
    rw [← eu]
    cases e : upF sh p with
    | true =>
      rw [e, if_pos rfl] at es
      refine yes rfl ⟨_, rfl, _, hD2, ?_, fun b u e => by rw [upd_ne (ne_of_none e hD)]; exact s2 b u e, ?_⟩
      · rw [List.length_map]
        exact small1000 (Nat.le_trans (List.length_filter_le _ _) (by rw [List.length_take]; omega))
      · show upd H' D _ D = _
        rw [upd_same, es, List.map_append]
        rfl
    | false =>
      rw [e, if_neg Bool.false_ne_true, List.append_nil] at es
      exact no rfl ⟨s2, by rw [es]; exact hD2⟩
  · rintro H2 ⟨s2, hr2⟩
    rw [List.length_map, List.take_length] at hr2
    have s12 := s1.trans s2
    refine ⟨_, rfl, D, _, rfl, .inl (SqL.of hr2), _, rfl, D, _, rfl, hr2, Nat.le_trans (List.length_filter_le _ _) (Nat.le_trans hlen8 (by decide)), fun p hp => ?_, fun H3 s3 => ?_⟩
    · have h1 := (hlt p (List.mem_filter.mp hp).1).1
      have h2 := hW.par
      omega
    · have s13 := s12.trans s3
      exact ask_fin q (Same.t s13) (hT.same s13) (by rw [List.length_map]; rfl) (by show 2 ≤ 9; decide)
theorem scSums : FnScope ["ship", "housed", "persons", "p"] ["ship"] (defScope sSums) := ⟨rfl, rfl, rfl, by decide +kernel, rfl, by decide +kernel, by decide +kernel⟩
theorem ok_tSums {f Pt : Addr} {fd : FuncData} {fa : Nat → Addr} {fds : Nat → FuncData} (F : Fun K "tell_sums" "tell_sums" sSums f fd) (T : Txt K C) (M : Ms P w K mg base C fa fds) (ml : mg "len" = none) (ms : mg "sum" = none) : FnOk P w K mg base CX0 5 f fd ["ship"] (spAsk C Pt 0 (mk0 .sums)) := by
  refine F.ok scSums (fun vs H Q E h => ?_) (fun cdv A outer s H vs Q E hr h => ?_)
  · obtain ⟨a, z, s, ns, rfl, hn, _⟩ := h
    rw [List.length_eq_zero_iff.mp hn]
    rfl
  obtain ⟨a, z, sh, ns, rfl, hn, hS, hW, hT, q⟩ := h
  have en := List.length_eq_zero_iff.mp hn
  subst en
  refine ⟨_, pss_cons (ps_set (i := 1) scSums.nd rfl (Or.inl rfl) (pe_meth0 (pv 0) T.cS M.hou.mt M.hou.ok hr M.hou.b .nil pass0))
    (pss_cons (ps_set (i := 2) scSums.nd rfl (Or.inl rfl) (pe_callB (cr_sum rfl) rfl ms PyProof.Rows.boot_sum (pa_cons (pe_lc (own := [("p", 3)]) rfl scSums.nd (pi_list (pv 1)) (blkOk_by rfl) (fun _ _ _ _ _ => pg_name (i := 3) scSums.nd rfl (Or.inl rfl))
      (fun _ _ _ _ _ => pts_nil) (fun _ _ _ _ _ => pe_fldK K rfl (pe_ix (ix_listK K rfl) (pe_fldK K rfl (pv 0) rfl) (pv 3) (fun _ _ => rfl)) rfl)) pa_nil)))
    (pss_one (ps_ret (pe_lst (pa_cons (pe_callB call_len_seq rfl ml PySem.boot_len (pa_cons (pv 1) pa_nil)) (pa_cons (pv 2)
      (pa_cons (pe_op op_sub (pe_callB call_len_seq rfl ml PySem.boot_len (pa_cons (pe_fld (pv 0) rfl) pa_nil)) (pe_callB call_len_seq rfl ml PySem.boot_len (pa_cons (pe_meth0 (pv 0) T.cS M.fr.mt M.fr.ok hr M.fr.b .nil pass0) pa_nil))) pa_nil))))))), ?_⟩
  have q : ∀ (H' : Hp) (r : Addr), H r = none → SameT Pt H H' → Tab Pt H' → H' r = some (.lst ((askL sh .sums).map V.int)) → Q (.ref r) H' := q
  have e : askL sh .sums = [((housedL sh).length : Int), ((((housedL sh).map fun p => (sh.party p).many).foldl (· + ·) 0 : Nat) : Int), ((((List.range sh.cabins.length).filter fun k => !(sh.free k)).length : Nat) : Int)] := rfl
  rw [e] at q
  have hlen8 : (housedL sh).length ≤ 8 := Nat.le_trans (lenN _) hW.par
  have hlt : ∀ p, p ∈ housedL sh → p < sh.parties.length := fun p hp => List.mem_range.mp (List.mem_filter.mp hp).1
  refine ⟨_, rfl, a, z.dx, _, rfl, hS.ship, ship_no (by decide) (by decide), a, z, sh, rfl, hS, hW.par, fun H1 r1 n1 s1 hr1 => ?_⟩
  have hr1 : LstN H1 r1 (housedL sh) := hr1
  refine ⟨_, rfl, r1, rfl, ⟨_, SqL.of hr1⟩, fun D hD => ?_⟩
  have sD : Same H1 (upd H1 D (.lst [])) := same_new hD _
  refine lc_list (K := K) (a := r1) (xs := (housedL sh).map nV) (fun i H' => Same H1 H' ∧ H' D = some (.lst ((((housedL sh).take i).map fun p => (((sh.party p).many : Nat) : Int)).map V.int))) ⟨sD, upd_same⟩ (fun i H' _ h => SqL.of (h.1 _ _ hr1)) ?_ ?_
  · rintro i y H' hi ⟨s2, hD2⟩
    obtain ⟨p, hp, rfl⟩ := map_nV hi
    have s12 := s1.trans s2
    obtain ⟨b, dx, hb, hb2⟩ := hS.parAt (hlt p (List.mem_of_getElem? hp))
    refine ⟨rfl, ?_⟩
    unfold tYes
    refine yes rfl ⟨_, rfl, a, C.S, z.dx, _, _, rfl, s12 _ _ hS.ship, T.cS, T.s2, ship_parties _ _, _, rfl, z.lp, _, _, _, rfl, rfl, SqL.of (s12 _ _ hS.lp), list_at hb, b, C.P, dx, _, _, rfl, s12 _ _ hb2, T.cP, T.p1, par_many _, _, hD2, ?_, fun b u e => by rw [upd_ne (ne_of_none e hD)]; exact s2 b u e, ?_⟩
    · rw [List.length_map, List.length_map, List.length_take]
      exact small1000 (by omega)
    · rw [upd_same, take_snoc hp, List.map_append, List.map_append]
      rfl
  · rintro H2 ⟨s2, hD2⟩
    rw [List.length_map, List.take_length] at hD2
    have s12 := s1.trans s2
    refine ⟨D, _, rfl, SqL.of hD2, ?_⟩
    refine ⟨_, rfl, r1, _, rfl, .inl (SqL.of (s2 _ _ hr1)), _, rfl, _, rfl, a, C.S, z.dx, _, _, rfl, s12 _ _ hS.ship, T.cS, T.s1, ship_cabins _ _, z.lc, _, rfl, .inl (SqL.of (s12 _ _ hS.lc)), ?_⟩
    refine ⟨_, rfl, a, z.dx, _, rfl, s12 _ _ hS.ship, ship_no (by decide) (by decide), a, z, sh, rfl, hS.same s12, hW.cab, hW.par, fun H4 r4 n4 s4 hr4 => ?_⟩
    refine ⟨r4, _, rfl, .inl (SqL.of hr4), _, _, rfl, rfl, ask_fin q (Same.t (s12.trans s4)) (hT.same (s12.trans s4)) ?_ (by show 3 ≤ 9; decide)⟩
    rw [foldl_sum, List.length_map, List.length_map, List.length_map, hS.clen, List.map_map]
    have hn := notfree_len sh
    have e1 : ((sh.cabins.length : Nat) : Int) - ((sh.frees.length : Nat) : Int) = ((((List.range sh.cabins.length).filter fun k => !(sh.free k)).length : Nat) : Int) := by omega
    have e2 : ((0 : Nat) : Int) + ((housedL sh).map ((fun n : Nat => (n : Int)) ∘ fun p => (sh.party p).many)).sum = ((housedL sh).map fun p => (((sh.party p).many : Nat) : Int)).sum := by
      rw [Int.natCast_zero, Int.zero_add]
      rfl
    rw [e2, ← e1]
    rfl
end
end Cg

end
section
set_option Elab.async false
set_option linter.all false
set_option maxRecDepth 100000
set_option maxHeartbeats 4000000
namespace Cg
open PySem PySem.Spec PyProof.Rows L2
open Km437 (Cabin Party Ship Desk Call act)
abbrev sSInit : Stmt := inClass (top 10) 0
abbrev sCopyC : Stmt := top 11
abbrev sCopyP : Stmt := top 12
abbrev sCopyS : Stmt := top 13
def spSInit (C : Cl) : Sp := fun vs H Q _ => ∃ x dx : Addr, vs = [.ref x] ∧ H x = some (.ins C.S dx []) ∧
  ∀ (H' : Hp) (lc lp : Addr), H lc = none → H lp = none → lc ≠ lp → H' x = some (.ins C.S dx (shipF lc lp)) → H' lc = some (.lst []) → H' lp = some (.lst []) → (∀ e o, H e = some o → e ≠ x → H' e = some o) → Q .non H'
def spCopyC (C : Cl) : Sp := fun vs H Q _ => ∃ (a : Addr) (c : Cabin), vs = [.ref a] ∧ CabAt C H a c ∧ ∀ (H' : Hp) (r : Addr), H r = none → Same H H' → CabAt C H' r c → Q (.ref r) H'
def spCopyP (C : Cl) : Sp := fun vs H Q _ => ∃ (a : Addr) (p : Party), vs = [.ref a] ∧ ParAt C H a p ∧ ∀ (H' : Hp) (r : Addr), H r = none → Same H H' → ParAt C H' r p → Q (.ref r) H'
def spCopyS (C : Cl) : Sp := fun vs H Q _ => ∃ (a : Addr) (z : Sh) (s : Ship), vs = [.ref a] ∧ ShipAt C H a z s ∧ Wf s ∧
  ∀ (H' : Hp) (r : Addr) (z' : Sh), H r = none → (∀ b, b ∈ z'.foot → H b = none) → Same H H' → ShipAt C H' r z' s → Q (.ref r) H'
theorem bit_le (b : Bool) : Km437.bit b ≤ 1 := by cases b <;> decide
theorem bit_one (b : Bool) : (Km437.bit b == 1) = b := by cases b <;> rfl
def Objs {α : Type} (R : Addr → α → Prop) (bs : List Addr) (l : List α) : Prop := bs.length = l.length ∧ ∀ (i : Nat) (b : Addr) (c : α), bs[i]? = some b → l[i]? = some c → R b c
theorem Objs.snoc {α : Type} {R : Addr → α → Prop} {bs : List Addr} {l : List α} {b : Addr} {c : α} (h : Objs R bs l) (hb : R b c) : Objs R (bs ++ [b]) (l ++ [c]) := by
  refine ⟨by rw [List.length_append, List.length_append, h.1]; rfl, fun i e d h1 h2 => ?_⟩
  by_cases hi : i < bs.length
  · rw [List.getElem?_append_left hi] at h1
    rw [List.getElem?_append_left (by rw [← h.1]; exact hi)] at h2
    exact h.2 i e d h1 h2
  · rw [List.getElem?_append_right (by omega)] at h1
    rw [List.getElem?_append_right (by rw [← h.1]; omega), ← h.1] at h2
    have i0 : i - bs.length = 0 := by
      by_cases e0 : i - bs.length = 0
      · exact e0
      · rw [List.getElem?_eq_none (by rw [List.length_singleton]; omega)] at h1
        cases h1
    rw [i0] at h1 h2
    have h1 : b = e := Option.some.inj h1
    have h2 : c = d := Option.some.inj h2
    rw [← h1, ← h2]
    exact hb
theorem Objs.imp {α : Type} {R R' : Addr → α → Prop} {bs : List Addr} {l : List α} (h : Objs R bs l) (k : ∀ b c, b ∈ bs → R b c → R' b c) : Objs R' bs l := ⟨h.1, fun i b c e1 e2 => k b c (List.mem_of_getElem? e1) (h.2 i b c e1 e2)⟩
theorem nodup_snoc {bs : List Addr} {b : Addr} (h : bs.Nodup) (hb : b ∉ bs) : (bs ++ [b]).Nodup := by
  rw [List.nodup_append]
  refine ⟨h, (by simp), fun x hx y hy e => ?_⟩
  rw [List.mem_singleton] at hy
  rw [e, hy] at hx
  exact hb hx
section
variable {P : Program} {w : World} {K : PySem.W.Frag} {mg : Str → Option Value} {base : Heap} {C : Cl}
theorem scSInit : FnScope ["self"] ["self"] (defScope sSInit) := ⟨rfl, rfl, rfl, by decide +kernel, rfl, by decide +kernel, by decide +kernel⟩
theorem ok_sInit {f : Addr} {fd : FuncData} (F : Fun K "__init__" "Ship.__init__" sSInit f fd) (T : Txt K C) : FnOk P w K mg base CX0 1 f fd ["self"] (spSInit C) := by
  refine F.ok scSInit (fun vs H Q E h => ?_) (fun cdv A outer s H vs Q E hr h => ?_)
  · obtain ⟨x, dx, rfl, _⟩ := h
    rfl
  obtain ⟨x, dx, rfl, hx, q⟩ := h
  refine ⟨_, pss_cons (ps_fld (pv 0) (pe_lst pa_nil) rfl) (pss_one (ps_fld (pv 0) (pe_lst pa_nil) rfl)), ?_⟩
  refine ⟨Nat.zero_le _, fun lc nlc => ?_⟩
  have nx : x ≠ lc := ne_of_none hx nlc
  refine ⟨_, rfl, x, C.S, dx, _, rfl, by rw [upd_ne nx]; exact hx, T.cS, T.s1, (by show 0 < 1000; decide), Nat.zero_le _, fun lp nlp => ?_⟩
  have nlp1 : lp ≠ x := fun e => by
    rw [e, upd_same] at nlp
    cases nlp
  have nlp2 : lp ≠ lc := fun e => by
    rw [upd_ne nlp1, e, upd_same] at nlp
    cases nlp
  rw [upd_ne nlp1, upd_ne nlp2] at nlp
  refine ⟨_, rfl, x, C.S, dx, _, rfl, by rw [upd_ne (Ne.symm nlp1), upd_same], T.cS, T.s2, (by show 1 < 1000; decide), ?_⟩
  refine q _ lc lp nlc nlp (Ne.symm nlp2) upd_same ?_ ?_ fun e o he hn => ?_
  · rw [upd_ne (Ne.symm nx), upd_ne (Ne.symm nlp2), upd_ne (Ne.symm nx), upd_same]
  · rw [upd_ne nlp1, upd_same]
  · rw [upd_ne hn, upd_ne (ne_of_none he nlp), upd_ne hn, upd_ne (ne_of_none he nlc)]
    exact he
theorem scCopyC : FnScope ["cabin", "other"] ["cabin"] (defScope sCopyC) := ⟨rfl, rfl, rfl, by decide +kernel, rfl, by decide +kernel, by decide +kernel⟩
theorem ok_copyC {f fI : Addr} {fd dI : FuncData} (F : Fun K "copy_of_cabin" "copy_of_cabin" sCopyC f fd) (T : Txt K C) (Mk_ : Mk K C.C fI) (FI : Fun K "__init__" "Cabin.__init__" sCInit fI dI) (bI : Binds K dI ["self", "deck", "place", "rank", "berths", "flat"] []) (mC : mg "Cabin" = some (.ref C.C)) : FnOk P w K mg base CX0 3 f fd ["cabin"] (spCopyC C) := by
  have G := ok_cInit (P := P) (w := w) (mg := mg) (base := base) FI T
  refine F.ok scCopyC (fun vs H Q E h => ?_) (fun cdv A outer s H vs Q E hr h => ?_)
  · obtain ⟨a, c, rfl, _⟩ := h
    rfl
  obtain ⟨a, c, rfl, ⟨da, ha⟩, q⟩ := h
  refine ⟨_, pss_cons (ps_set (i := 1) scCopyC.nd rfl (Or.inl rfl) (pe_make Mk_ G hr rfl mC bI .nil pass0 (pa_cons (pe_fld (pv 0) rfl) (pa_cons (pe_fld (pv 0) rfl) (pa_cons (pe_fld (pv 0) rfl) (pa_cons (pe_fld (pv 0) rfl) (pa_cons (pe_fld (pv 0) rfl) pa_nil)))))))
    (pss_cons (ps_fld (pv 1) (pe_fld (pv 0) rfl) rfl) (pss_one (ps_ret (pv 1)))), ?_⟩
  refine ⟨_, rfl, a, C.C, da, _, _, rfl, ha, T.cC, T.c1, cab_deck _, _, rfl, a, C.C, da, _, _, rfl, ha, T.cC, T.c2, cab_place _, _, rfl, a, C.C, da, _, _, rfl, ha, T.cC, T.c3, cab_rank _, _, rfl, a, C.C, da, _, _, rfl, ha, T.cC, T.c4, cab_berths _, _, rfl, a, C.C, da, _, _, rfl, ha, T.cC, T.c5, cab_flat _, ?_⟩
  intro x dx nx ndx nex
  refine ⟨x, dx, c.deck, c.place, c.rank, c.berths, Km437.bit c.flat, rfl, bit_le _, upd_same, fun H1 h1 k1 => ⟨rfl, ?_⟩⟩
  have s1 : Same H H1 := fun b o e => k1 b o (by rw [upd_ne (ne_of_none e nx), upd_ne (ne_of_none e ndx)]; exact e) (ne_of_none e nx)
  rw [bit_one] at h1
  refine ⟨_, rfl, a, C.C, da, _, _, rfl, s1 _ _ ha, T.cC, T.c6, cab_out _, _, rfl, x, C.C, dx, _, rfl, h1, T.cC, T.c6, (by show 6 < 1000; decide), ?_⟩
  refine ⟨_, rfl, q _ x nx (fun b o e => ?_) ⟨dx, ?_⟩⟩
  · rw [upd_ne (ne_of_none e nx)]
    exact s1 b o e
  · rw [upd_same, put_out]
theorem scCopyP : FnScope ["party", "other"] ["party"] (defScope sCopyP) := ⟨rfl, rfl, rfl, by decide +kernel, rfl, by decide +kernel, by decide +kernel⟩
theorem ok_copyP {f fI : Addr} {fd dI : FuncData} (F : Fun K "copy_of_party" "copy_of_party" sCopyP f fd) (T : Txt K C) (Mk_ : Mk K C.P fI) (FI : Fun K "__init__" "Party.__init__" sPInit fI dI) (bI : Binds K dI ["self", "many", "rank", "flat"] []) (mP : mg "Party" = some (.ref C.P)) : FnOk P w K mg base CX0 3 f fd ["party"] (spCopyP C) := by
  have G := ok_pInit (P := P) (w := w) (mg := mg) (base := base) FI T
  refine F.ok scCopyP (fun vs H Q E h => ?_) (fun cdv A outer s H vs Q E hr h => ?_)
  · obtain ⟨a, c, rfl, _⟩ := h
    rfl
  obtain ⟨a, c, rfl, ⟨da, ha⟩, q⟩ := h
  refine ⟨_, pss_cons (ps_set (i := 1) scCopyP.nd rfl (Or.inl rfl) (pe_make Mk_ G hr rfl mP bI .nil pass0 (pa_cons (pe_fld (pv 0) rfl) (pa_cons (pe_fld (pv 0) rfl) (pa_cons (pe_fld (pv 0) rfl) pa_nil)))))
    (pss_cons (ps_fld (pv 1) (pe_fld (pv 0) rfl) rfl) (pss_cons (ps_fld (pv 1) (pe_fld (pv 0) rfl) rfl) (pss_one (ps_ret (pv 1))))), ?_⟩
  refine ⟨_, rfl, a, C.P, da, _, _, rfl, ha, T.cP, T.p1, par_many _, _, rfl, a, C.P, da, _, _, rfl, ha, T.cP, T.p2, par_rank _, _, rfl, a, C.P, da, _, _, rfl, ha, T.cP, T.p3, par_flat _, ?_⟩
  intro x dx nx ndx nex
  refine ⟨x, dx, c.many, c.rank, Km437.bit c.flat, rfl, bit_le _, upd_same, fun H1 h1 k1 => ⟨rfl, ?_⟩⟩
  have s1 : Same H H1 := fun b o e => k1 b o (by rw [upd_ne (ne_of_none e nx), upd_ne (ne_of_none e ndx)]; exact e) (ne_of_none e nx)
  rw [bit_one] at h1
  have nax : a ≠ x := ne_of_none ha nx
  refine ⟨_, rfl, a, C.P, da, _, _, rfl, s1 _ _ ha, T.cP, T.p4, par_cabin _, _, rfl, x, C.P, dx, _, rfl, h1, T.cP, T.p4, (by show 5 < 1000; decide), ?_⟩
  refine ⟨_, rfl, a, C.P, da, _, _, rfl, (by rw [upd_ne nax]; exact s1 _ _ ha), T.cP, T.p5, par_gone _, _, rfl, x, C.P, dx, _, rfl, upd_same, T.cP, T.p5, (by show 5 < 1000; decide), ?_⟩
  refine ⟨_, rfl, q _ x nx (fun b o e => ?_) ⟨dx, ?_⟩⟩
  · rw [upd_ne (ne_of_none e nx), upd_ne (ne_of_none e nx)]
    exact s1 b o e
  · rw [upd_same, put_cabin, put_gone]
theorem CabAt.same {H H' : Hp} {b : Addr} {c : Cabin} (h : CabAt C H b c) (s : Same H H') : CabAt C H' b c := by
  obtain ⟨dx, e⟩ := h
  exact ⟨dx, s _ _ e⟩
theorem ParAt.same {H H' : Hp} {b : Addr} {c : Party} (h : ParAt C H b c) (s : Same H H') : ParAt C H' b c := by
  obtain ⟨dx, e⟩ := h
  exact ⟨dx, s _ _ e⟩
theorem scCopyS : FnScope ["ship", "other", "cabin", "party"] ["ship"] (defScope sCopyS) := ⟨rfl, rfl, rfl, by decide +kernel, rfl, by decide +kernel, by decide +kernel⟩
theorem ok_copyS {f fI fC fP : Addr} {fd dI dC dP : FuncData} (F : Fun K "copy_of_ship" "copy_of_ship" sCopyS f fd) (T : Txt K C) (Mk_ : Mk K C.S fI) (FI : Fun K "__init__" "Ship.__init__" sSInit fI dI) (bI : Binds K dI ["self"] []) (mS : mg "Ship" = some (.ref C.S))
    (DC : Df P w K mg base 3 "copy_of_cabin" ["cabin"] (spCopyC C) fC dC) (DP : Df P w K mg base 3 "copy_of_party" ["party"] (spCopyP C) fP dP) : FnOk P w K mg base CX0 4 f fd ["ship"] (spCopyS C) := by
  have G := ok_sInit (P := P) (w := w) (mg := mg) (base := base) FI T
  refine F.ok scCopyS (fun vs H Q E h => ?_) (fun cdv A outer s H vs Q E hr h => ?_)
  · obtain ⟨a, z, s, rfl, _⟩ := h
    rfl
  obtain ⟨a, z, sh, rfl, hS, hW, q⟩ := h
  refine ⟨_, pss_cons (ps_set (i := 1) scCopyS.nd rfl (Or.inl rfl) (pe_make0 Mk_ G (hr.mono (by decide)) rfl mS bI .nil pass0))
    (pss_cons (ps_fld (pv 1) (pe_lc (own := [("cabin", 2)]) rfl scCopyS.nd (pi_list (pe_fld (pv 0) rfl)) (blkOk_by rfl) (fun _ _ _ _ _ => pg_name (i := 2) scCopyS.nd rfl (Or.inl rfl)) (fun _ _ _ _ _ => pts_nil) (fun _ _ _ _ _ => pe_call DC.ok hr rfl DC.m DC.kp DC.b .nil pass0 (pa_cons (pv 2) pa_nil))) rfl)
    (pss_cons (ps_fld (pv 1) (pe_lc (own := [("party", 3)]) rfl scCopyS.nd (pi_list (pe_fld (pv 0) rfl)) (blkOk_by rfl) (fun _ _ _ _ _ => pg_name (i := 3) scCopyS.nd rfl (Or.inl rfl)) (fun _ _ _ _ _ => pts_nil) (fun _ _ _ _ _ => pe_call DP.ok hr rfl DP.m DP.kp DP.b .nil pass0 (pa_cons (pv 3) pa_nil))) rfl)
    (pss_one (ps_ret (pv 1))))), ?_⟩
  intro x dx nx ndx nex
  refine ⟨x, dx, rfl, upd_same, fun H1 lc0 lp0 _ _ _ hx1 _ _ k1 => ⟨rfl, ?_⟩⟩
  have s1 : Same H H1 := fun b o e => k1 b o (by rw [upd_ne (ne_of_none e nx), upd_ne (ne_of_none e ndx)]; exact e) (ne_of_none e nx)
  refine ⟨_, rfl, a, C.S, z.dx, _, _, rfl, s1 _ _ hS.ship, T.cS, T.s1, ship_cabins _ _, z.lc, rfl, ⟨_, SqL.of (s1 _ _ hS.lc)⟩, fun D hD => ?_⟩
  have sD : Same H1 (upd H1 D (.lst [])) := same_new hD _
  refine lc_list (K := K) (a := z.lc) (xs := z.cs.map V.ref) (fun i H' => Same H1 H' ∧ ∃ bs : List Addr, H' D = some (.lst (bs.map V.ref)) ∧ bs.Nodup ∧ (∀ b, b ∈ bs → b ≠ D ∧ H1 b = none) ∧ Objs (CabAt C H') bs (sh.cabins.take i))
    ⟨sD, [], upd_same, List.nodup_nil, fun b hb => (by cases hb), rfl, fun i b w e => (by cases e)⟩ (fun i H' _ h => SqL.of (h.1 _ _ (s1 _ _ hS.lc))) ?_ ?_
  · rintro i y H' hi ⟨s2, bs, hD2, hbn, hnd, hB⟩
    obtain ⟨b, hb, rfl⟩ := map_ref hi
    have hiC : i < sh.cabins.length := by
      rw [← hS.clen]
      exact (List.getElem?_eq_some_iff.mp hb).1
    have hci := List.getElem?_eq_getElem hiC
    refine ⟨rfl, ?_⟩
    unfold tYes
    refine yes rfl ?_
    have s12 := s1.trans s2
    refine ⟨_, rfl, b, sh.cabins[i], rfl, (hS.cab i b _ hb hci).same s12, fun H3 r n3 s3 hr3 => ?_⟩
    have nrD : r ≠ D := Ne.symm (ne_of_none hD2 n3)
    have hbl : bs.length ≤ 12 := by
      have := hW.cab
      rw [hB.1, List.length_take]
      omega
    refine ⟨_, s3 _ _ hD2, ?_, fun c u e => by rw [upd_ne (ne_of_none e hD)]; exact s3 _ _ (s2 c u e), bs ++ [r], ?_, nodup_snoc hbn (fun hm => ?_), ?_, ?_⟩
    · rw [List.length_map]
      exact small1000 (by omega)
    · rw [upd_same, List.map_append]
      rfl
    · obtain ⟨j, hj, ej⟩ := List.getElem_of_mem hm
      have hj2 : j < (sh.cabins.take i).length := by rw [← hB.1]; exact hj
      obtain ⟨dr, er⟩ := hB.2 j r _ (by rw [List.getElem?_eq_getElem hj, ej]) (List.getElem?_eq_getElem hj2)
      rw [n3] at er
      cases er
    · intro c hc
      rcases List.mem_append.mp hc with z | z
      · exact hnd c z
      · rw [List.mem_singleton.mp z]
        exact ⟨nrD, s2.free n3⟩
    · rw [take_snoc hci]
      refine Objs.snoc (hB.imp fun c d hc ⟨dc, e⟩ => ⟨dc, ?_⟩) ?_
      · rw [upd_ne (hnd c hc).1]
        exact s3 _ _ e
      · obtain ⟨dr, er⟩ := hr3
        exact ⟨dr, by rw [upd_ne nrD]; exact er⟩
  · rintro H2 ⟨s2, bs, hD2, hbn, hnd, hB⟩
    rw [List.length_map, hS.clen, List.take_length] at hB
    have s12 := s1.trans s2
    have nxD : x ≠ D := ne_of_none hx1 hD
    refine ⟨_, rfl, x, C.S, dx, _, rfl, s2 _ _ hx1, T.cS, T.s1, (by show 2 < 1000; decide), ?_⟩
    have eF : putF "cabins" (V.ref D) (shipF lc0 lp0) = shipF D lp0 := rfl
    rw [eF]
    have kx : ∀ b o, H2 b = some o → b ≠ x → (upd H2 x (.ins C.S dx (shipF D lp0))) b = some o := fun b o e n => by rw [upd_ne n]; exact e
    have sx : Same H (upd H2 x (.ins C.S dx (shipF D lp0))) := fun b o e => kx b o (s12 b o e) (ne_of_none e nx)
    have hbx : ∀ b, b ∈ bs → b ≠ x := fun b hb e => by
      have := (hnd b hb).2
      rw [e, hx1] at this
      cases this
    have hD3 : (upd H2 x (.ins C.S dx (shipF D lp0))) D = some (.lst (bs.map V.ref)) := kx _ _ hD2 (Ne.symm nxD)
    have hB3 : Objs (CabAt C (upd H2 x (.ins C.S dx (shipF D lp0)))) bs sh.cabins := hB.imp fun c d hc ⟨dc, e⟩ => ⟨dc, kx _ _ e (hbx c hc)⟩
    have hx3 : (upd H2 x (.ins C.S dx (shipF D lp0))) x = some (.ins C.S dx (shipF D lp0)) := upd_same
    generalize upd H2 x (.ins C.S dx (shipF D lp0)) = H3 at sx hD3 hB3 hx3
    refine ⟨_, rfl, a, C.S, z.dx, _, _, rfl, sx _ _ hS.ship, T.cS, T.s2, ship_parties _ _, z.lp, rfl, ⟨_, SqL.of (sx _ _ hS.lp)⟩, fun D' hD' => ?_⟩
    have sD' : Same H3 (upd H3 D' (.lst [])) := same_new hD' _
    refine lc_list (K := K) (a := z.lp) (xs := z.ps.map V.ref) (fun i H' => Same H3 H' ∧ ∃ cs : List Addr, H' D' = some (.lst (cs.map V.ref)) ∧ cs.Nodup ∧ (∀ b, b ∈ cs → b ≠ D' ∧ H3 b = none) ∧ Objs (ParAt C H') cs (sh.parties.take i))
      ⟨sD', [], upd_same, List.nodup_nil, fun b hb => (by cases hb), rfl, fun i b w e => (by cases e)⟩ (fun i H' _ h => SqL.of (h.1 _ _ (sx _ _ hS.lp))) ?_ ?_
    · rintro i y H' hi ⟨s4, cs, hD4, hcn, hcd, hP⟩
      obtain ⟨b, hb, rfl⟩ := map_ref hi
      have hiP : i < sh.parties.length := by
        rw [← hS.plen]
        exact (List.getElem?_eq_some_iff.mp hb).1
      have hpi := List.getElem?_eq_getElem hiP
      refine ⟨rfl, ?_⟩
      unfold tYes
      refine yes rfl ?_
      refine ⟨_, rfl, b, sh.parties[i], rfl, (hS.par i b _ hb hpi).same (sx.trans s4), fun H5 r n5 s5 hr5 => ?_⟩
      have nrD : r ≠ D' := Ne.symm (ne_of_none hD4 n5)
      have hcl : cs.length ≤ 8 := by
        have := hW.par
        rw [hP.1, List.length_take]
        omega
      refine ⟨_, s5 _ _ hD4, ?_, fun c u e => by rw [upd_ne (ne_of_none e hD')]; exact s5 _ _ (s4 c u e), cs ++ [r], ?_, nodup_snoc hcn (fun hm => ?_), ?_, ?_⟩
      · rw [List.length_map]
        exact small1000 (by omega)
      · rw [upd_same, List.map_append]
        rfl
      · obtain ⟨j, hj, ej⟩ := List.getElem_of_mem hm
        have hj2 : j < (sh.parties.take i).length := by rw [← hP.1]; exact hj
        obtain ⟨dr, er⟩ := hP.2 j r _ (by rw [List.getElem?_eq_getElem hj, ej]) (List.getElem?_eq_getElem hj2)
        rw [n5] at er
        cases er
      · intro c hc
        rcases List.mem_append.mp hc with z | z
        · exact hcd c z
        · rw [List.mem_singleton.mp z]
          exact ⟨nrD, s4.free n5⟩
      · rw [take_snoc hpi]
        refine Objs.snoc (hP.imp fun c d hc ⟨dc, e⟩ => ⟨dc, ?_⟩) ?_
        · rw [upd_ne (hcd c hc).1]
          exact s5 _ _ e
        · obtain ⟨dr, er⟩ := hr5
          exact ⟨dr, by rw [upd_ne nrD]; exact er⟩
    · rintro H4 ⟨s4, cs, hD4, hcn, hcd, hP⟩
      rw [List.length_map, hS.plen, List.take_length] at hP
      refine ⟨_, rfl, x, C.S, dx, _, rfl, s4 _ _ hx3, T.cS, T.s2, (by show 2 < 1000; decide), ?_⟩
      have eF : putF "parties" (V.ref D') (shipF D lp0) = shipF D D' := rfl
      rw [eF]
      have ky : ∀ b o, H4 b = some o → b ≠ x → (upd H4 x (.ins C.S dx (shipF D D'))) b = some o := fun b o e n => by rw [upd_ne n]; exact e
      have nxD' : x ≠ D' := ne_of_none hx3 hD'
      have hcx : ∀ b, b ∈ cs → b ≠ x := fun b hb e => by
        have := (hcd b hb).2
        rw [e, hx3] at this
        cases this
      refine ⟨_, rfl, q _ x ⟨dx, D, D', bs, cs⟩ nx (fun b hb => ?_) (fun b o e => ky b o (s4 _ _ (sx b o e)) (ne_of_none e nx)) ?_⟩
      · rcases List.mem_cons.mp hb with e | hb
        · rw [e]
          exact s1.free hD
        rcases List.mem_cons.mp hb with e | hb
        · rw [e]
          exact sx.free hD'
        rcases List.mem_append.mp hb with hb | hb
        · exact s1.free (hnd b hb).2
        · exact sx.free (hcd b hb).2
      · exact ⟨upd_same, ky _ _ (s4 _ _ hD3) (Ne.symm nxD), ky _ _ hD4 (Ne.symm nxD'), ne_of_none hD3 hD', hB.1, hP.1,
          fun i b c e1 e2 => (by
            obtain ⟨dc, e⟩ := hB3.2 i b c e1 e2
            exact ⟨dc, ky _ _ (s4 _ _ e) (hbx b (List.mem_of_getElem? e1))⟩),
          fun i b c e1 e2 => (by
            obtain ⟨dc, e⟩ := hP.2 i b c e1 e2
            exact ⟨dc, ky _ _ e (hcx b (List.mem_of_getElem? e1))⟩), hbn, hcn⟩
end
end Cg

end
section
set_option Elab.async false
set_option linter.all false
set_option maxRecDepth 100000
set_option maxHeartbeats 4000000
namespace Cg
open PySem PySem.Spec PyProof.Rows L2
open Km437 (Cabin Party Ship Desk Call act)
/-! ## The book on the heap -/
abbrev sBInit : Stmt := inClass (top 16) 0
abbrev sAnew : Stmt := inClass (top 16) 1
abbrev sEnter : Stmt := inClass (top 16) 2
abbrev sBack : Stmt := inClass (top 16) 3
abbrev sAgain : Stmt := inClass (top 16) 4
abbrev sState : Stmt := top 61
structure Bk where
  dx : Addr
  a : Addr
  le : Addr
  ll : Addr
  es : List Addr
  ls : List Addr
def bookF (a le ll : Addr) : List (Str × V) := [("ship", .ref a), ("earlier", .ref le), ("later", .ref ll)]
theorem book_ship (a le ll : Addr) : (bookF a le ll).lookup ("ship" : Str) = some (.ref a) := rfl
theorem book_earlier (a le ll : Addr) : (bookF a le ll).lookup ("earlier" : Str) = some (.ref le) := rfl
theorem book_later (a le ll : Addr) : (bookF a le ll).lookup ("later" : Str) = some (.ref ll) := rfl
theorem book_no {a le ll : Addr} {m : Str} (h1 : m ≠ "ship") (h2 : m ≠ "earlier") (h3 : m ≠ "later") : (bookF a le ll).lookup m = none := by
  unfold bookF
  rw [List.lookup_cons, beq_eq_false_iff_ne.mpr h1, List.lookup_cons, beq_eq_false_iff_ne.mpr h2, List.lookup_cons, beq_eq_false_iff_ne.mpr h3]
  rfl
theorem sb_ne {x y d d' lc lp a le ll : Addr} : HO.ins x d (shipF lc lp) ≠ HO.ins y d' (bookF a le ll) := fun e => by
  injection e with _ _ e
  exact absurd (congrArg List.length e) (by show ¬ 2 = 3; decide)
theorem cb_ne {x y d d' a le ll : Addr} {c : Cabin} : HO.ins x d (cabF c) ≠ HO.ins y d' (bookF a le ll) := fun e => by
  injection e with _ _ e
  exact absurd (congrArg List.length e) (by show ¬ 6 = 3; decide)
theorem pb_ne {x y d d' a le ll : Addr} {p : Party} : HO.ins x d (parF p) ≠ HO.ins y d' (bookF a le ll) := fun e => by
  injection e with _ _ e
  exact absurd (congrArg List.length e) (by show ¬ 5 = 3; decide)
def ShipIn (C : Cl) (H : Hp) (t le ll a : Addr) (s : Ship) : Prop := ∃ z : Sh, ShipAt C H a z s ∧ Wf s ∧ le ∉ z.foot ∧ ll ∉ z.foot ∧ t ∉ z.foot
/-- t: a list of the caller's own, which stands apart -/
structure BookAt (C : Cl) (B t : Addr) (H : Hp) (b : Addr) (k : Bk) (d : Desk) : Prop where
  book : H b = some (.ins B k.dx (bookF k.a k.le k.ll))
  le : H k.le = some (.lst (k.es.reverse.map V.ref))
  ll : H k.ll = some (.lst (k.ls.reverse.map V.ref))
  ne : k.le ≠ k.ll
  now : ShipIn C H t k.le k.ll k.a d.now
  past : Paired (ShipIn C H t k.le k.ll) k.es d.past
  fut : Paired (ShipIn C H t k.le k.ll) k.ls d.future
  cnt : d.past.length + d.future.length ≤ 30
  tl : ∃ xs, H t = some (.lst xs)
  te : t ≠ k.le
  tL : t ≠ k.ll
theorem foot_not {C : Cl} {H : Hp} {a : Addr} {z : Sh} {s : Ship} (h : ShipAt C H a z s) {x : Addr} (hx : x = a ∨ x ∈ z.foot) : ∃ o, H x = some o ∧ (∀ ps, o ≠ .tbl ps) ∧ ∀ y d' a' le ll, o ≠ .ins y d' (bookF a' le ll) := by
  rcases hx with e | hb
  · exact ⟨_, by rw [e]; exact h.ship, (by intro _ e; cases e), fun _ _ _ _ _ => sb_ne⟩
  rcases List.mem_cons.mp hb with e | hb
  · exact ⟨_, by rw [e]; exact h.lc, (by intro _ e; cases e), (by intro _ _ _ _ _ e; cases e)⟩
  rcases List.mem_cons.mp hb with e | hb
  · exact ⟨_, by rw [e]; exact h.lp, (by intro _ e; cases e), (by intro _ _ _ _ _ e; cases e)⟩
  rcases List.mem_append.mp hb with hb | hb
  · obtain ⟨i, hi, e⟩ := List.getElem_of_mem hb
    have hi' : i < s.cabins.length := by rw [← h.clen]; exact hi
    obtain ⟨dc, hc⟩ := h.cab i x _ (by rw [List.getElem?_eq_getElem hi, e]) (List.getElem?_eq_getElem hi')
    exact ⟨_, hc, (by intro _ e; cases e), fun _ _ _ _ _ => cb_ne⟩
  · obtain ⟨i, hi, e⟩ := List.getElem_of_mem hb
    have hi' : i < s.parties.length := by rw [← h.plen]; exact hi
    obtain ⟨dc, hc⟩ := h.par i x _ (by rw [List.getElem?_eq_getElem hi, e]) (List.getElem?_eq_getElem hi')
    exact ⟨_, hc, (by intro _ e; cases e), fun _ _ _ _ _ => pb_ne⟩
theorem ShipAt.off {C : Cl} {H H' : Hp} {a : Addr} {z : Sh} {s : Ship} (h : ShipAt C H a z s) (k : ∀ x o, (x = a ∨ x ∈ z.foot) → H x = some o → H' x = some o) : ShipAt C H' a z s :=
  ⟨k _ _ (.inl rfl) h.ship, k _ _ (.inr foot_lc) h.lc, k _ _ (.inr foot_lp) h.lp, h.ne, h.clen, h.plen,
    fun i b c e1 e2 => let ⟨dx, e⟩ := h.cab i b c e1 e2; ⟨dx, k _ _ (.inr (foot_cs? e1)) e⟩, fun i b c e1 e2 => let ⟨dx, e⟩ := h.par i b c e1 e2; ⟨dx, k _ _ (.inr (foot_ps? e1)) e⟩, h.cnd, h.pnd⟩
/-- what may change of the heap when a book is written -/
structure FrB (b : Addr) (k k' : Bk) (H H' : Hp) : Prop where
  keep : ∀ x o, H x = some o → (∀ ps, o ≠ .tbl ps) → x ≠ b → x ≠ k.le → x ≠ k.ll → H' x = some o
  le : k'.le = k.le ∨ k'.le = k.ll ∨ H k'.le = none
  ll : k'.ll = k.le ∨ k'.ll = k.ll ∨ H k'.ll = none
theorem ShipIn.move {C : Cl} {B t : Addr} {H H' : Hp} {b : Addr} {k k' : Bk} {d : Desk} (hB : BookAt C B t H b k d) (fr : FrB b k k' H H') {a : Addr} {s : Ship} (h : ShipIn C H t k.le k.ll a s) : ShipIn C H' t k'.le k'.ll a s := by
  obtain ⟨z, hS, hW, n1, n2, n3⟩ := h
  have nle : ∀ x, (x = a ∨ x ∈ z.foot) → x ≠ k.le := fun x hx e => by
    rcases hx with z' | z'
    · exact ne_of hS.ship hB.le (by intro e; cases e) (z'.symm.trans e)
    · exact n1 (by rw [← e]; exact z')
  have nll : ∀ x, (x = a ∨ x ∈ z.foot) → x ≠ k.ll := fun x hx e => by
    rcases hx with z' | z'
    · exact ne_of hS.ship hB.ll (by intro e; cases e) (z'.symm.trans e)
    · exact n2 (by rw [← e]; exact z')
  have out : ∀ y, (y = k.le ∨ y = k.ll ∨ H y = none) → y ∉ z.foot := fun y hy hf => by
    rcases hy with e | e | e
    · exact n1 (by rw [← e]; exact hf)
    · exact n2 (by rw [← e]; exact hf)
    · obtain ⟨o, ho, _⟩ := foot_not hS (.inr hf)
      rw [e] at ho
      cases ho
  refine ⟨z, hS.off fun x o hx e => ?_, hW, out _ fr.le, out _ fr.ll, n3⟩
  obtain ⟨o', ho, t1, t2⟩ := foot_not hS hx
  rw [e] at ho
  have ho := Option.some.inj ho
  subst ho
  exact fr.keep x o e t1 (ne_of e hB.book (t2 _ _ _ _ _)) (nle x hx) (nll x hx)
theorem BookAt.t3 {C : Cl} {B t : Addr} {H H' : Hp} {b : Addr} {k k' : Bk} {d : Desk} (hB : BookAt C B t H b k d) (fr : FrB b k k' H H') : (∃ xs, H' t = some (.lst xs)) ∧ t ≠ k'.le ∧ t ≠ k'.ll := by
  obtain ⟨xs, ht⟩ := hB.tl
  have out : ∀ y, (y = k.le ∨ y = k.ll ∨ H y = none) → t ≠ y := fun y hy => by
    rcases hy with e | e | e
    · rw [e]; exact hB.te
    · rw [e]; exact hB.tL
    · exact ne_of_none ht e
  exact ⟨⟨xs, fr.keep _ _ ht (by intro _ e; cases e) (ne_of ht hB.book (by intro e; cases e)) hB.te hB.tL⟩, out _ fr.le, out _ fr.ll⟩
theorem paired_len {α β : Type} {R : α → β → Prop} : ∀ {xs : List α} {ys : List β}, Paired R xs ys → xs.length = ys.length
  | _, _, .nil => rfl
  | _, _, .cons _ t => by rw [List.length_cons, List.length_cons, paired_len t]
theorem paired_take {α β : Type} {R : α → β → Prop} : ∀ {xs : List α} {ys : List β} (n : Nat), Paired R xs ys → Paired R (xs.take n) (ys.take n)
  | _, _, 0, _ => .nil
  | _, _, n + 1, .nil => .nil
  | _, _, n + 1, .cons h t => .cons h (paired_take n t)
theorem ships_moved {C : Cl} {B t : Addr} {H H' : Hp} {b : Addr} {k k' : Bk} {d : Desk} (hB : BookAt C B t H b k d) (fr : FrB b k k' H H') {as : List Addr} {ss : List Ship} (h : Paired (ShipIn C H t k.le k.ll) as ss) : Paired (ShipIn C H' t k'.le k'.ll) as ss := Paired.imp' (fun _ _ z => z.move hB fr) h
theorem FrB.same {b : Addr} {k : Bk} {H H' : Hp} (h : ∀ x o, H x = some o → (∀ ps, o ≠ .tbl ps) → H' x = some o) : FrB b k k H H' := ⟨fun x o e t _ _ _ => h x o e t, .inl rfl, .inr (.inl rfl)⟩
theorem BookAt.keep {C : Cl} {B t : Addr} {H H' : Hp} {b : Addr} {k : Bk} {d : Desk} (hB : BookAt C B t H b k d) (h : ∀ x o, H x = some o → (∀ ps, o ≠ .tbl ps) → H' x = some o) : BookAt C B t H' b k d :=
  ⟨h _ _ hB.book (by intro _ e; cases e), h _ _ hB.le (by intro _ e; cases e), h _ _ hB.ll (by intro _ e; cases e), hB.ne, hB.now.move hB (FrB.same h), ships_moved hB (FrB.same h) hB.past, ships_moved hB (FrB.same h) hB.fut, hB.cnt, (hB.t3 (FrB.same h)).1, hB.te, hB.tL⟩
theorem BookAt.same {C : Cl} {B t : Addr} {H H' : Hp} {b : Addr} {k : Bk} {d : Desk} (hB : BookAt C B t H b k d) (h : Same H H') : BookAt C B t H' b k d := hB.keep fun x o e _ => h x o e
/-- all is kept but the book's own parts, and nothing goes -/
structure FrS (b : Addr) (k k' : Bk) (H H' : Hp) : Prop where
  keep : ∀ x o, H x = some o → x ≠ b → x ≠ k.le → x ≠ k.ll → H' x = some o
  le : k'.le = k.le ∨ k'.le = k.ll ∨ H k'.le = none
  ll : k'.ll = k.le ∨ k'.ll = k.ll ∨ H k'.ll = none
  live : ∀ x, H' x = none → H x = none
theorem FrS.b {b : Addr} {k k' : Bk} {H H' : Hp} (h : FrS b k k' H H') : FrB b k k' H H' := ⟨fun x o e _ n1 n2 n3 => h.keep x o e n1 n2 n3, h.le, h.ll⟩
theorem FrS.refl {b : Addr} {k : Bk} {H : Hp} : FrS b k k H H := ⟨fun _ _ e _ _ _ => e, .inl rfl, .inr (.inl rfl), fun _ e => e⟩
theorem upd_none {H : Hp} {a y : Addr} {o : HO} (h : upd H a o y = none) : H y = none := by
  by_cases e : y = a
  · rw [e, upd_same] at h
    cases h
  · rw [upd_ne e] at h
    exact h
theorem BookAt.setT {C : Cl} {B t : Addr} {H : Hp} {b : Addr} {k : Bk} {d : Desk} (hB : BookAt C B t H b k d) (ys : List V) : BookAt C B t (upd H t (.lst ys)) b k d := by
  obtain ⟨xs, ht⟩ := hB.tl
  have kp : ∀ x o, H x = some o → x ≠ t → (upd H t (.lst ys)) x = some o := fun x o e n => by rw [upd_ne n]; exact e
  have sh : ∀ a s, ShipIn C H t k.le k.ll a s → ShipIn C (upd H t (.lst ys)) t k.le k.ll a s := fun a s ⟨z, hS, hW, n1, n2, n3⟩ =>
    ⟨z, hS.off fun x o hx e => kp x o e (fun z' => by
      rcases hx with w | w
      · exact ne_of hS.ship ht (by intro e; cases e) (w.symm.trans z')
      · exact n3 (by rw [← z']; exact w)), hW, n1, n2, n3⟩
  exact ⟨kp _ _ hB.book (ne_of hB.book ht (by intro e; cases e)), kp _ _ hB.le (Ne.symm hB.te), kp _ _ hB.ll (Ne.symm hB.tL), hB.ne, sh _ _ hB.now, Paired.imp' sh hB.past, Paired.imp' sh hB.fut, hB.cnt, ⟨_, upd_same⟩, hB.te, hB.tL⟩
structure TxtB (K : PySem.W.Frag) (B : Addr) : Prop where
  cB : Cls K B
  b1 : NoAttr K B "ship"
  b2 : NoAttr K B "earlier"
  b3 : NoAttr K B "later"
theorem cut_last (xs : List V) : cutV xs (some (-30)) none = xs.drop (xs.length - 30) := by
  have e1 : HT.sIx xs.length 0 (some (-30)) = xs.length - 30 := by
    show (if (-30 : Int) < 0 then ((-30 : Int) + (xs.length : Int)).toNat else min (-30 : Int).toNat xs.length) = _
    rw [if_pos (by decide)]
    omega
  unfold cutV
  rw [e1, HT.sIx_none]
  refine List.take_of_length_le ?_
  rw [List.length_drop]
  omega
theorem last30 (as : List Addr) : (as.reverse.map V.ref).drop ((as.reverse.map V.ref).length - 30) = (as.take 30).reverse.map V.ref := by
  rw [List.length_map, List.length_reverse, ← List.map_drop, List.drop_reverse]
  congr 2
  by_cases h : as.length ≤ 30
  · rw [List.take_of_length_le (by omega), List.take_of_length_le h]
  · congr 1
    omega
def spAnew (C : Cl) (B t : Addr) : Sp := fun vs H Q _ => ∃ (b dx : Addr) (fs : List (Str × V)) (xs : List V), vs = [.ref b] ∧ H b = some (.ins B dx fs) ∧ H t = some (.lst xs) ∧ (fs = [] ∨ ∃ a le ll, fs = bookF a le ll) ∧
  ∀ (H' : Hp) (k : Bk), BookAt C B t H' b k Km437.fresh → (∀ x o, H x = some o → x ≠ b → H' x = some o) → H k.le = none → H k.ll = none → Q .non H'
def spBInit (C : Cl) (B t : Addr) : Sp := fun vs H Q _ => ∃ (b dx : Addr) (xs : List V), vs = [.ref b] ∧ H b = some (.ins B dx []) ∧ H t = some (.lst xs) ∧
  ∀ (H' : Hp) (k : Bk), BookAt C B t H' b k Km437.fresh → (∀ x o, H x = some o → x ≠ b → H' x = some o) → H k.le = none → H k.ll = none → Q .non H'
def spEnter (C : Cl) (B t : Addr) : Sp := fun vs H Q _ => ∃ (b c : Addr) (k : Bk) (d : Desk) (s : Ship), vs = [.ref b, .ref c] ∧ BookAt C B t H b k d ∧ ShipIn C H t k.le k.ll c s ∧
  ∀ (H' : Hp) (k' : Bk), BookAt C B t H' b k' (d.become s) → FrS b k k' H H' → Q .non H'
def spBk (C : Cl) (B t : Addr) (x : Call) : Sp := fun vs H Q _ => ∃ (b : Addr) (k : Bk) (d : Desk), vs = [.ref b] ∧ BookAt C B t H b k d ∧
  ∀ (H' : Hp) (k' : Bk), BookAt C B t H' b k' (act d x).1 → FrS b k k' H H' → Q (.int (act d x).2.value) H'
section
variable {P : Program} {w : World} {K : PySem.W.Frag} {mg : Str → Option Value} {base : Heap} {C : Cl} {B t : Addr}
theorem scAnew : FnScope ["self"] ["self"] (defScope sAnew) := ⟨rfl, rfl, rfl, by decide +kernel, rfl, by decide +kernel, by decide +kernel⟩
theorem ok_anew {f fI : Addr} {fd dI : FuncData} (F : Fun K "start_anew" "Book.start_anew" sAnew f fd) (T : Txt K C) (TB : TxtB K B) (Mk_ : Mk K C.S fI) (FI : Fun K "__init__" "Ship.__init__" sSInit fI dI) (bI : Binds K dI ["self"] []) (mS : mg "Ship" = some (.ref C.S)) : FnOk P w K mg base CX0 3 f fd ["self"] (spAnew C B t) := by
  have G := ok_sInit (P := P) (w := w) (mg := mg) (base := base) FI T
  refine F.ok scAnew (fun vs H Q E h => ?_) (fun cdv A outer s H vs Q E hr h => ?_)
  · obtain ⟨b, dx, fs, xs, rfl, _⟩ := h
    rfl
  obtain ⟨b, db, fs, xs, rfl, hb, ht, hfs, q⟩ := h
  refine ⟨_, pss_cons (ps_fld (pv 0) (pe_make0 Mk_ G hr rfl mS bI .nil pass0) rfl) (pss_cons (ps_fld (pv 0) (pe_lst pa_nil) rfl) (pss_one (ps_fld (pv 0) (pe_lst pa_nil) rfl))), ?_⟩
  intro x dx nx ndx nex
  refine ⟨x, dx, rfl, upd_same, fun H1 lc lp nlc nlp ncp hx1 hlc hlp k1 => ⟨rfl, ?_⟩⟩
  have s1 : Same H H1 := fun b o e => k1 b o (by rw [upd_ne (ne_of_none e nx), upd_ne (ne_of_none e ndx)]; exact e) (ne_of_none e nx)
  have nlcH : H lc = none := by
    have hne : lc ≠ x := fun e => by rw [e, upd_same] at nlc; cases nlc
    rw [upd_ne hne] at nlc
    by_cases e : lc = dx
    · rw [e]; exact ndx
    · rw [upd_ne e] at nlc; exact nlc
  have nlpH : H lp = none := by
    have hne : lp ≠ x := fun e => by rw [e, upd_same] at nlp; cases nlp
    rw [upd_ne hne] at nlp
    by_cases e : lp = dx
    · rw [e]; exact ndx
    · rw [upd_ne e] at nlp; exact nlp
  have f0 : fs.length < 1000 := by
    rcases hfs with e | ⟨a, le, ll, e⟩
    · rw [e]; decide
    · rw [e]; show 3 < 1000; decide
  have f1 : (putF "ship" (.ref x) fs).length < 1000 := by
    rcases hfs with e | ⟨a, le, ll, e⟩
    · rw [e]; show 1 < 1000; decide
    · rw [e]; show 3 < 1000; decide
  have f2 : ∀ y, (putF "earlier" (.ref y) (putF "ship" (.ref x) fs)).length < 1000 := fun y => by
    rcases hfs with e | ⟨a, le, ll, e⟩
    · rw [e]; show 2 < 1000; decide
    · rw [e]; show 3 < 1000; decide
  have f3 : ∀ y1 y2, putF "later" (.ref y2) (putF "earlier" (.ref y1) (putF "ship" (.ref x) fs)) = bookF x y1 y2 := fun y1 y2 => by
    rcases hfs with e | ⟨a, le, ll, e⟩
    · rw [e]; rfl
    · rw [e]; rfl
  have hS1 : ShipAt C H1 x ⟨dx, lc, lp, [], []⟩ Km437.opened := ⟨hx1, hlc, hlp, ncp, rfl, rfl, fun i b c e => (by cases e), fun i b c e => (by cases e), List.nodup_nil, List.nodup_nil⟩
  refine ⟨_, rfl, b, B, db, _, rfl, s1 _ _ hb, TB.cB, TB.b1, f0, Nat.zero_le _, fun le nle => ?_⟩
  have nbe : b ≠ le := fun e => by rw [← e, upd_same] at nle; cases nle
  have nle1 : H1 le = none := by rw [upd_ne (Ne.symm nbe)] at nle; exact nle
  refine ⟨_, rfl, b, B, db, _, rfl, (by rw [upd_ne nbe, upd_same]), TB.cB, TB.b2, f1, Nat.zero_le _, fun ll nll => ?_⟩
  have nbl : b ≠ ll := fun e => by rw [← e, upd_same] at nll; cases nll
  rw [upd_ne (Ne.symm nbl)] at nll
  have nel : le ≠ ll := fun e => by rw [← e, upd_same] at nll; cases nll
  rw [upd_ne (Ne.symm nel), upd_ne (Ne.symm nbl)] at nll
  refine ⟨_, rfl, b, B, db, _, rfl, (by rw [upd_ne nbl, upd_same]), TB.cB, TB.b3, f2 _, ?_⟩
  rw [f3]
  have kp : ∀ y o, H1 y = some o → y ≠ b → (upd (upd (upd (upd (upd H1 b (.ins B db (putF "ship" (.ref x) fs))) le (.lst [])) b (.ins B db (putF "earlier" (.ref le) (putF "ship" (.ref x) fs)))) ll (.lst [])) b (.ins B db (bookF x le ll))) y = some o := fun y o e n => by
    rw [upd_ne n, upd_ne (ne_of_none e nll), upd_ne n, upd_ne (ne_of_none e nle1), upd_ne n]
    exact e
  have nb : ∀ y, (y = x ∨ y ∈ Sh.foot ⟨dx, lc, lp, [], []⟩) → y ≠ b := fun y hy e => by
    rw [e] at hy
    rcases hy with z | z
    · rw [z, nx] at hb; cases hb
    rcases List.mem_cons.mp z with z | z
    · rw [z, nlcH] at hb; cases hb
    rcases List.mem_cons.mp z with z | z
    · rw [z, nlpH] at hb; cases hb
    · cases z
  have out : ∀ y, H1 y = none → y ∉ Sh.foot ⟨dx, lc, lp, [], []⟩ := fun y hy hf => by
    obtain ⟨o, ho, _⟩ := foot_not hS1 (.inr hf)
    rw [hy] at ho
    cases ho
  have outT : t ∉ Sh.foot ⟨dx, lc, lp, [], []⟩ := fun z => by
    rcases List.mem_cons.mp z with z | z
    · rw [z, nlcH] at ht; cases ht
    rcases List.mem_cons.mp z with z | z
    · rw [z, nlpH] at ht; cases ht
    · cases z
  refine q _ ⟨db, x, le, ll, [], []⟩ ⟨upd_same, ?_, ?_, nel, ⟨⟨dx, lc, lp, [], []⟩, hS1.off fun y o hy e => kp y o e (nb y hy), wf_opened, out le nle1, out ll nll, outT⟩, .nil, .nil, (by decide), ⟨xs, kp _ _ (s1 _ _ ht) (ne_of ht hb (by intro e; cases e))⟩, ne_of_none (s1 _ _ ht) nle1, ne_of_none (s1 _ _ ht) nll⟩ (fun y o e n => kp y o (s1 _ _ e) n) (s1.free nle1) (s1.free nll)
  · rw [upd_ne (Ne.symm nbe), upd_ne nel, upd_ne (Ne.symm nbe), upd_same]
    rfl
  · rw [upd_ne (Ne.symm nbl), upd_same]
    rfl
theorem scBInit : FnScope ["self"] ["self"] (defScope sBInit) := ⟨rfl, rfl, rfl, by decide +kernel, rfl, by decide +kernel, by decide +kernel⟩
theorem ok_bInit {f g : Addr} {fd gd : FuncData} (F : Fun K "__init__" "Book.__init__" sBInit f fd) (TB : TxtB K B) (M : Mt P w K mg base B 3 "start_anew" ["self"] (spAnew C B t) g gd) : FnOk P w K mg base CX0 4 f fd ["self"] (spBInit C B t) := by
  refine F.ok scBInit (fun vs H Q E h => ?_) (fun cdv A outer s H vs Q E hr h => ?_)
  · obtain ⟨b, dx, xs, rfl, _⟩ := h
    rfl
  obtain ⟨b, dx, xs, rfl, hb, ht, q⟩ := h
  refine ⟨_, pss_one (ps_expr (pe_meth0 (pv 0) TB.cB M.mt M.ok hr M.b .nil pass0)), ?_⟩
  exact ⟨_, rfl, b, dx, _, rfl, hb, rfl, b, dx, _, xs, rfl, hb, ht, .inl rfl, q⟩
theorem scEnter : FnScope ["self", "changed"] ["self", "changed"] (defScope sEnter) := ⟨rfl, rfl, rfl, by decide +kernel, rfl, by decide +kernel, by decide +kernel⟩
theorem ok_enter {f : Addr} {fd : FuncData} (F : Fun K "enter_change" "Book.enter_change" sEnter f fd) (TB : TxtB K B) (b30 : Cn mg "MOST_TAKEN_BACK" 30) : FnOk P w K mg base CX0 1 f fd ["self", "changed"] (spEnter C B t) := by
  refine F.ok scEnter (fun vs H Q E h => ?_) (fun cdv A outer s H vs Q E hr h => ?_)
  · obtain ⟨b, c, k, d, s, rfl, _⟩ := h
    rfl
  obtain ⟨b, c, k, d, sh, rfl, hB, hC, q⟩ := h
  obtain ⟨u30, m30, r30⟩ := b30
  refine ⟨_, pss_cons (ps_fld (pv 0) (pe_slice sl_list (pe_op op_cat (pe_fld (pv 0) rfl) (pe_lst (pa_cons (pe_fld (pv 0) rfl) pa_nil))) (po_some (pe_un un_neg (pe_glob rfl m30 r30))) po_none) rfl)
    (pss_cons (ps_fld (pv 0) (pe_lst pa_nil) rfl) (pss_one (ps_fld (pv 0) (pv 1) rfl))), ?_⟩
  have hpl : k.es.length = d.past.length := paired_len hB.past
  have hc := hB.cnt
  refine ⟨_, rfl, b, B, k.dx, _, _, rfl, hB.book, TB.cB, TB.b2, book_earlier _ _ _, _, rfl, b, B, k.dx, _, _, rfl, hB.book, TB.cB, TB.b1, book_ship _ _ _, (by show 1 ≤ sizeLine; decide), fun p1 np1 => ?_⟩
  have s1 : Same H (upd H p1 (.lst [.ref k.a])) := same_new np1 _
  refine ⟨k.le, p1, _, _, rfl, rfl, s1 _ _ hB.le, upd_same, ?_, fun p2 np2 => ?_⟩
  · rw [List.length_map, List.length_reverse]
    exact small (by show _ + 1 ≤ 1000; omega)
  have s2 := s1.trans (same_new np2 (.lst (k.es.reverse.map V.ref ++ [V.ref k.a])))
  refine ⟨30, rfl, -30, rfl, p2, _, rfl, SqL.of upd_same, fun p3 np3 => ?_⟩
  have el : cutV (k.es.reverse.map V.ref ++ [V.ref k.a]) (some (-30)) none = ((k.a :: k.es).take 30).reverse.map V.ref := by
    have e : k.es.reverse.map V.ref ++ [V.ref k.a] = (k.a :: k.es).reverse.map V.ref := by
      rw [List.reverse_cons, List.map_append]
      rfl
    rw [e, cut_last, last30]
  rw [el]
  have s3 := s2.trans (same_new np3 (.lst (((k.a :: k.es).take 30).reverse.map V.ref)))
  have n3H : H p3 = none := s2.free np3
  generalize hH3 : upd (upd (upd H p1 (.lst [.ref k.a])) p2 (.lst (k.es.reverse.map V.ref ++ [V.ref k.a]))) p3 (.lst (((k.a :: k.es).take 30).reverse.map V.ref)) = H3 at s3
  have h3 : H3 p3 = some (.lst (((k.a :: k.es).take 30).reverse.map V.ref)) := by rw [← hH3, upd_same]
  refine ⟨_, rfl, b, B, k.dx, _, rfl, s3 _ _ hB.book, TB.cB, TB.b2, (by show 3 < 1000; decide), Nat.zero_le _, fun p4 np4 => ?_⟩
  have nb4 : b ≠ p4 := fun e => by rw [← e, upd_same] at np4; cases np4
  rw [upd_ne (Ne.symm nb4)] at np4
  have nb3 : b ≠ p3 := ne_of_none hB.book n3H
  refine ⟨_, rfl, b, B, k.dx, _, rfl, (by rw [upd_ne nb4, upd_same]), TB.cB, TB.b3, (by show 3 < 1000; decide), ?_⟩
  refine ⟨_, rfl, _, rfl, b, B, k.dx, _, rfl, upd_same, TB.cB, TB.b1, (by show 3 < 1000; decide), ?_⟩
  have eF : putF "ship" (V.ref c) (putF "later" (V.ref p4) (putF "earlier" (V.ref p3) (bookF k.a k.le k.ll))) = bookF c p3 p4 := rfl
  rw [eF, upd_upd]
  have kp : ∀ y o, H3 y = some o → y ≠ b → (upd (upd (upd H3 b (.ins B k.dx (putF "earlier" (V.ref p3) (bookF k.a k.le k.ll)))) p4 (.lst [])) b (.ins B k.dx (bookF c p3 p4))) y = some o := fun y o e n => by
    rw [upd_ne n, upd_ne (ne_of_none e np4), upd_ne n]
    exact e
  have n34 : p3 ≠ p4 := ne_of_none h3 np4
  have fs : FrS b k ⟨k.dx, c, p3, p4, (k.a :: k.es).take 30, []⟩ H (upd (upd (upd H3 b (.ins B k.dx (putF "earlier" (V.ref p3) (bookF k.a k.le k.ll)))) p4 (.lst [])) b (.ins B k.dx (bookF c p3 p4))) :=
    ⟨fun y o e n _ _ => kp y o (s3 _ _ e) n, .inr (.inr n3H), .inr (.inr (s3.free np4)), fun y hy => s3.free (upd_none (upd_none (upd_none hy)))⟩
  have fr := fs.b
  obtain ⟨t1, t2, t3⟩ := hB.t3 fr
  refine q _ ⟨k.dx, c, p3, p4, (k.a :: k.es).take 30, []⟩ ⟨upd_same, kp _ _ h3 (Ne.symm nb3), ?_, n34, hC.move hB fr, ?_, .nil, ?_, t1, t2, t3⟩ fs
  · rw [upd_ne (Ne.symm nb4), upd_same]
    rfl
  · exact paired_take 30 (.cons (hB.now.move hB fr) (ships_moved hB fr hB.past))
  · show ((d.now :: d.past).take 30).length + 0 ≤ 30
    rw [List.length_take]
    omega
theorem scBack : FnScope ["self"] ["self"] (defScope sBack) := ⟨rfl, rfl, rfl, by decide +kernel, rfl, by decide +kernel, by decide +kernel⟩
theorem ok_back {f : Addr} {fd : FuncData} (F : Fun K "take_back" "Book.take_back" sBack f fd) (TB : TxtB K B) (ml : mg "len" = none) (n2 : Cn mg "NOT_THERE" (-2)) : FnOk P w K mg base CX0 1 f fd ["self"] (spBk C B t .back) := by
  refine F.ok scBack (fun vs H Q E h => ?_) (fun cdv A outer s H vs Q E hr h => ?_)
  · obtain ⟨b, k, d, rfl, _⟩ := h
    rfl
  obtain ⟨b, ⟨kdx, ka, kle, kll, kes, kls⟩, ⟨dn, dp, df⟩, rfl, hB, q⟩ := h
  obtain ⟨u2, m2, r2⟩ := n2
  refine ⟨_, pss_cons (ps_if (pt_cmpR op_eq (pe_callB call_len_seq rfl ml PySem.boot_len (pa_cons (pe_fld (pv 0) rfl) pa_nil)) pe_int (nomark _)) (pss_one (ps_ret (pe_glob rfl m2 r2))) pss_nil)
    (pss_cons (ps_expr (pe_bm PySem.F.plainAttrs_list PySem.F.slot_list_append PySem.F.type_list_append mt_append (pe_fld (pv 0) rfl) (pa_cons (pe_fld (pv 0) rfl) pa_nil)))
    (pss_cons (ps_fld (pv 0) (pe_bm0 PySem.F.plainAttrs_list PySem.F.slot_list_pop PySem.F.type_list_pop mt_pop (pe_fld (pv 0) rfl)) rfl)
    (pss_one (ps_ret (pe_callB call_len_seq rfl ml PySem.boot_len (pa_cons (pe_fld (pv 0) rfl) pa_nil)))))), ?_⟩
  have hc := hB.cnt
  have hpl : kes.length = dp.length := paired_len hB.past
  have hfl : kls.length = df.length := paired_len hB.fut
  have hc : dp.length + df.length ≤ 30 := hc
  refine ⟨_, rfl, b, B, kdx, _, _, rfl, hB.book, TB.cB, TB.b2, book_earlier _ _ _, kle, _, rfl, .inl (SqL.of hB.le), rfl, _, rfl, ?_⟩
  rw [dec_int, List.length_map, List.length_reverse]
  rcases kes with _ | ⟨e0, es⟩
  · rcases dp with _ | ⟨s0, ss⟩
    · exact yes rfl (q H ⟨kdx, ka, kle, kll, _, kls⟩ hB FrS.refl)
    · exact absurd hpl (by simp)
  · rcases dp with _ | ⟨s0, ss⟩
    · exact absurd hpl (by simp)
    obtain ⟨h1, ht⟩ : ShipIn C H t kle kll e0 s0 ∧ Paired (ShipIn C H t kle kll) es ss := by
      cases hB.past with
      | cons h1 ht => exact ⟨h1, ht⟩
    refine no (beq_eq_false_iff_ne.mpr (by rw [List.length_cons]; omega)) ?_
    refine ⟨_, rfl, b, B, kdx, _, _, rfl, hB.book, TB.cB, TB.b3, book_later _ _ _, .inl ⟨rfl, _, SqL.of hB.ll⟩, _, rfl, b, B, kdx, _, _, rfl, hB.book, TB.cB, TB.b1, book_ship _ _ _, kll, _, _, rfl, rfl, hB.ll, ?_, ?_⟩
    · rw [List.length_map, List.length_reverse]
      show kls.length < sizeLine
      exact small1000 (by omega)
    have nbl : b ≠ kll := ne_of hB.book hB.ll (by intro e; cases e)
    have nbe : b ≠ kle := ne_of hB.book hB.le (by intro e; cases e)
    have nel : kle ≠ kll := hB.ne
    have el : kls.reverse.map V.ref ++ [V.ref ka] = (ka :: kls).reverse.map V.ref := by
      rw [List.reverse_cons, List.map_append]
      rfl
    show tSeq _ _ _ _ (upd H kll (.lst (kls.reverse.map V.ref ++ [V.ref ka])))
    rw [el]
    have hb1 : (upd H kll (.lst ((ka :: kls).reverse.map V.ref))) b = some (.ins B kdx (bookF ka kle kll)) := by rw [upd_ne nbl]; exact hB.book
    have ee : (e0 :: es).reverse.map V.ref = es.reverse.map V.ref ++ [V.ref e0] := by
      rw [List.reverse_cons, List.map_append]
      rfl
    have he1 : (upd H kll (.lst ((ka :: kls).reverse.map V.ref))) kle = some (.lst (es.reverse.map V.ref ++ [V.ref e0])) := by rw [upd_ne nel, ← ee]; exact hB.le
    refine ⟨_, rfl, b, B, kdx, _, _, rfl, hb1, TB.cB, TB.b2, book_earlier _ _ _, .inl ⟨rfl, _, SqL.of he1⟩, kle, _, V.ref e0, rfl, rfl, he1, ?_, ?_⟩
    · rw [List.length_append, List.length_singleton, Nat.add_sub_cancel, List.getElem?_append_right (Nat.le_refl _), Nat.sub_self]
      rfl
    rw [List.dropLast_concat]
    refine ⟨_, rfl, b, B, kdx, _, rfl, (by rw [upd_ne nbe]; exact hb1), TB.cB, TB.b1, (by show 3 < 1000; decide), ?_⟩
    have eF : putF "ship" (V.ref e0) (bookF ka kle kll) = bookF e0 kle kll := rfl
    rw [eF]
    have kp : ∀ y o, H y = some o → y ≠ b → y ≠ kle → y ≠ kll → (upd (upd (upd H kll (.lst ((ka :: kls).reverse.map V.ref))) kle (.lst (es.reverse.map V.ref))) b (.ins B kdx (bookF e0 kle kll))) y = some o := fun y o e n1 n2 n3 => by
      rw [upd_ne n1, upd_ne n2, upd_ne n3]
      exact e
    have hle : (upd (upd (upd H kll (.lst ((ka :: kls).reverse.map V.ref))) kle (.lst (es.reverse.map V.ref))) b (.ins B kdx (bookF e0 kle kll))) kle = some (.lst (es.reverse.map V.ref)) := by rw [upd_ne (Ne.symm nbe), upd_same]
    have hll : (upd (upd (upd H kll (.lst ((ka :: kls).reverse.map V.ref))) kle (.lst (es.reverse.map V.ref))) b (.ins B kdx (bookF e0 kle kll))) kll = some (.lst ((ka :: kls).reverse.map V.ref)) := by rw [upd_ne (Ne.symm nbl), upd_ne (Ne.symm nel), upd_same]
    have fs : FrS b ⟨kdx, ka, kle, kll, e0 :: es, kls⟩ ⟨kdx, e0, kle, kll, es, ka :: kls⟩ H (upd (upd (upd H kll (.lst ((ka :: kls).reverse.map V.ref))) kle (.lst (es.reverse.map V.ref))) b (.ins B kdx (bookF e0 kle kll))) :=
      ⟨fun y o e n1 n2 n3 => kp y o e n1 n2 n3, .inl rfl, .inr (.inl rfl), fun y hy => upd_none (upd_none (upd_none hy))⟩
    have fr := fs.b
    obtain ⟨t1, t2, t3⟩ := hB.t3 fr
    refine ⟨_, rfl, b, B, kdx, _, _, rfl, upd_same, TB.cB, TB.b2, book_earlier _ _ _, kle, _, rfl, .inl (SqL.of hle), ?_⟩
    have hlen : es.length = ss.length := paired_len ht
    rw [List.length_map, List.length_reverse, hlen]
    refine q _ ⟨kdx, e0, kle, kll, es, ka :: kls⟩ ⟨upd_same, hle, hll, nel, h1.move hB fr, ships_moved hB fr ht, .cons (hB.now.move hB fr) (ships_moved hB fr hB.fut), ?_, t1, t2, t3⟩ fs
    show ss.length + (dn :: df).length ≤ 30
    rw [List.length_cons] at hc ⊢
    omega
theorem scAgain : FnScope ["self"] ["self"] (defScope sAgain) := ⟨rfl, rfl, rfl, by decide +kernel, rfl, by decide +kernel, by decide +kernel⟩
theorem ok_again {f : Addr} {fd : FuncData} (F : Fun K "do_again" "Book.do_again" sAgain f fd) (TB : TxtB K B) (ml : mg "len" = none) (n2 : Cn mg "NOT_THERE" (-2)) : FnOk P w K mg base CX0 1 f fd ["self"] (spBk C B t .again) := by
  refine F.ok scAgain (fun vs H Q E h => ?_) (fun cdv A outer s H vs Q E hr h => ?_)
  · obtain ⟨b, k, d, rfl, _⟩ := h
    rfl
  obtain ⟨b, ⟨kdx, ka, kle, kll, kes, kls⟩, ⟨dn, dp, df⟩, rfl, hB, q⟩ := h
  obtain ⟨u2, m2, r2⟩ := n2
  refine ⟨_, pss_cons (ps_if (pt_cmpR op_eq (pe_callB call_len_seq rfl ml PySem.boot_len (pa_cons (pe_fld (pv 0) rfl) pa_nil)) pe_int (nomark _)) (pss_one (ps_ret (pe_glob rfl m2 r2))) pss_nil)
    (pss_cons (ps_expr (pe_bm PySem.F.plainAttrs_list PySem.F.slot_list_append PySem.F.type_list_append mt_append (pe_fld (pv 0) rfl) (pa_cons (pe_fld (pv 0) rfl) pa_nil)))
    (pss_cons (ps_fld (pv 0) (pe_bm0 PySem.F.plainAttrs_list PySem.F.slot_list_pop PySem.F.type_list_pop mt_pop (pe_fld (pv 0) rfl)) rfl)
    (pss_one (ps_ret (pe_callB call_len_seq rfl ml PySem.boot_len (pa_cons (pe_fld (pv 0) rfl) pa_nil)))))), ?_⟩
  have hc := hB.cnt
  have hpl : kes.length = dp.length := paired_len hB.past
  have hfl : kls.length = df.length := paired_len hB.fut
  have hc : dp.length + df.length ≤ 30 := hc
  refine ⟨_, rfl, b, B, kdx, _, _, rfl, hB.book, TB.cB, TB.b3, book_later _ _ _, kll, _, rfl, .inl (SqL.of hB.ll), rfl, _, rfl, ?_⟩
  rw [dec_int, List.length_map, List.length_reverse]
  rcases kls with _ | ⟨e0, ls⟩
  · rcases df with _ | ⟨s0, ss⟩
    · exact yes rfl (q H ⟨kdx, ka, kle, kll, kes, _⟩ hB FrS.refl)
    · exact absurd hfl (by simp)
  · rcases df with _ | ⟨s0, ss⟩
    · exact absurd hfl (by simp)
    obtain ⟨h1, ht⟩ : ShipIn C H t kle kll e0 s0 ∧ Paired (ShipIn C H t kle kll) ls ss := by
      cases hB.fut with
      | cons h1 ht => exact ⟨h1, ht⟩
    have hc : dp.length + (ss.length + 1) ≤ 30 := hc
    refine no (beq_eq_false_iff_ne.mpr (by rw [List.length_cons]; omega)) ?_
    refine ⟨_, rfl, b, B, kdx, _, _, rfl, hB.book, TB.cB, TB.b2, book_earlier _ _ _, .inl ⟨rfl, _, SqL.of hB.le⟩, _, rfl, b, B, kdx, _, _, rfl, hB.book, TB.cB, TB.b1, book_ship _ _ _, kle, _, _, rfl, rfl, hB.le, ?_, ?_⟩
    · rw [List.length_map, List.length_reverse]
      show kes.length < sizeLine
      exact small1000 (by omega)
    have nbl : b ≠ kll := ne_of hB.book hB.ll (by intro e; cases e)
    have nbe : b ≠ kle := ne_of hB.book hB.le (by intro e; cases e)
    have nel : kle ≠ kll := hB.ne
    have el : kes.reverse.map V.ref ++ [V.ref ka] = (ka :: kes).reverse.map V.ref := by
      rw [List.reverse_cons, List.map_append]
      rfl
    show tSeq _ _ _ _ (upd H kle (.lst (kes.reverse.map V.ref ++ [V.ref ka])))
    rw [el]
    have hb1 : (upd H kle (.lst ((ka :: kes).reverse.map V.ref))) b = some (.ins B kdx (bookF ka kle kll)) := by rw [upd_ne nbe]; exact hB.book
    have ee : (e0 :: ls).reverse.map V.ref = ls.reverse.map V.ref ++ [V.ref e0] := by
      rw [List.reverse_cons, List.map_append]
      rfl
    have he1 : (upd H kle (.lst ((ka :: kes).reverse.map V.ref))) kll = some (.lst (ls.reverse.map V.ref ++ [V.ref e0])) := by rw [upd_ne (Ne.symm nel), ← ee]; exact hB.ll
    refine ⟨_, rfl, b, B, kdx, _, _, rfl, hb1, TB.cB, TB.b3, book_later _ _ _, .inl ⟨rfl, _, SqL.of he1⟩, kll, _, V.ref e0, rfl, rfl, he1, ?_, ?_⟩
    · rw [List.length_append, List.length_singleton, Nat.add_sub_cancel, List.getElem?_append_right (Nat.le_refl _), Nat.sub_self]
      rfl
    rw [List.dropLast_concat]
    refine ⟨_, rfl, b, B, kdx, _, rfl, (by rw [upd_ne nbl]; exact hb1), TB.cB, TB.b1, (by show 3 < 1000; decide), ?_⟩
    have eF : putF "ship" (V.ref e0) (bookF ka kle kll) = bookF e0 kle kll := rfl
    rw [eF]
    have kp : ∀ y o, H y = some o → y ≠ b → y ≠ kle → y ≠ kll → (upd (upd (upd H kle (.lst ((ka :: kes).reverse.map V.ref))) kll (.lst (ls.reverse.map V.ref))) b (.ins B kdx (bookF e0 kle kll))) y = some o := fun y o e n1 n2 n3 => by
      rw [upd_ne n1, upd_ne n3, upd_ne n2]
      exact e
    have hll : (upd (upd (upd H kle (.lst ((ka :: kes).reverse.map V.ref))) kll (.lst (ls.reverse.map V.ref))) b (.ins B kdx (bookF e0 kle kll))) kll = some (.lst (ls.reverse.map V.ref)) := by rw [upd_ne (Ne.symm nbl), upd_same]
    have hle : (upd (upd (upd H kle (.lst ((ka :: kes).reverse.map V.ref))) kll (.lst (ls.reverse.map V.ref))) b (.ins B kdx (bookF e0 kle kll))) kle = some (.lst ((ka :: kes).reverse.map V.ref)) := by rw [upd_ne (Ne.symm nbe), upd_ne nel, upd_same]
    have fs : FrS b ⟨kdx, ka, kle, kll, kes, e0 :: ls⟩ ⟨kdx, e0, kle, kll, ka :: kes, ls⟩ H (upd (upd (upd H kle (.lst ((ka :: kes).reverse.map V.ref))) kll (.lst (ls.reverse.map V.ref))) b (.ins B kdx (bookF e0 kle kll))) :=
      ⟨fun y o e n1 n2 n3 => kp y o e n1 n2 n3, .inl rfl, .inr (.inl rfl), fun y hy => upd_none (upd_none (upd_none hy))⟩
    have fr := fs.b
    obtain ⟨t1, t2, t3⟩ := hB.t3 fr
    refine ⟨_, rfl, b, B, kdx, _, _, rfl, upd_same, TB.cB, TB.b3, book_later _ _ _, kll, _, rfl, .inl (SqL.of hll), ?_⟩
    have hlen : ls.length = ss.length := paired_len ht
    rw [List.length_map, List.length_reverse, hlen]
    have et : (dn :: dp).take Km437.PAST = dn :: dp := List.take_of_length_le (by show dp.length + 1 ≤ 30; omega)
    have ed : act ⟨dn, dp, s0 :: ss⟩ .again = (⟨s0, dn :: dp, ss⟩, Km437.only ((ss.length : Nat) : Int)) := by
      unfold act
      dsimp only
      rw [et]
    rw [ed] at q
    refine q _ ⟨kdx, e0, kle, kll, ka :: kes, ls⟩ ⟨upd_same, hle, hll, nel, h1.move hB fr, .cons (hB.now.move hB fr) (ships_moved hB fr hB.past), ships_moved hB fr ht, ?_, t1, t2, t3⟩ fs
    show (dn :: dp).length + ss.length ≤ 30
    rw [List.length_cons]
    omega
def spState (C : Cl) (B t : Addr) (Pt : Addr) : Sp := fun vs H Q _ => ∃ (b : Addr) (k : Bk) (d : Desk), vs = [.ref b] ∧ BookAt C B t H b k d ∧ Tab Pt H ∧
  ∀ (H' : Hp) (r : Addr), H r = none → SameT Pt H H' → Tab Pt H' → H' r = some (.lst ((Km437Neutral.told (act d .state).2).map V.int)) → Q (.ref r) H'
theorem scState : FnScope ["book", "ship", "gone", "party"] ["book"] (defScope sState) := ⟨rfl, rfl, rfl, by decide +kernel, rfl, by decide +kernel, by decide +kernel⟩
theorem ok_tState {f Pt : Addr} {fd : FuncData} (F : Fun K "tell_state" "tell_state" sState f fd) (T : Txt K C) (TB : TxtB K B) (ml : mg "len" = none) : FnOk P w K mg base CX0 1 f fd ["book"] (spState C B t Pt) := by
  refine F.ok scState (fun vs H Q E h => ?_) (fun cdv A outer s H vs Q E hr h => ?_)
  · obtain ⟨b, k, d, rfl, _⟩ := h
    rfl
  obtain ⟨b, k, d, rfl, hB, hT, q⟩ := h
  refine ⟨_, pss_cons (ps_set (i := 1) scState.nd rfl (Or.inl rfl) (pe_fld (pv 0) rfl))
    (pss_cons (ps_setLc (i := 2) (own := [("party", 3)]) rfl scState.nd rfl rfl (sw_true rfl rfl rfl rfl) (pi_list (pe_fld (pv 1) rfl)) (blkOk_by rfl) (fun _ _ _ _ _ => pg_name (i := 3) scState.nd rfl (Or.inl rfl))
      (fun _ _ _ _ _ => pts_one (pt_val (pe_fldK K rfl (pv 3) rfl))) (fun _ _ _ _ _ => pv 3))
    (pss_one (ps_ret (pe_lst (pa_cons (pe_callB call_len_seq rfl ml PySem.boot_len (pa_cons (pe_fld (pv 1) rfl) pa_nil)) (pa_cons (pe_callB call_len_seq rfl ml PySem.boot_len (pa_cons (pe_fld (pv 1) rfl) pa_nil))
      (pa_cons (pe_callB call_len_seq rfl ml PySem.boot_len (pa_cons (pv 2) pa_nil)) (pa_cons (pe_callB call_len_seq rfl ml PySem.boot_len (pa_cons (pe_fld (pv 0) rfl) pa_nil)) (pa_cons (pe_callB call_len_seq rfl ml PySem.boot_len (pa_cons (pe_fld (pv 0) rfl) pa_nil)) pa_nil))))))))), ?_⟩
  obtain ⟨z, hS, hW, _, _, _⟩ := hB.now
  have e : Km437Neutral.told (act d .state).2 = [((d.now.cabins.length : Nat) : Int), ((d.now.parties.length : Nat) : Int), (((d.now.parties.filter fun p => p.gone).length : Nat) : Int), ((d.past.length : Nat) : Int), ((d.future.length : Nat) : Int)] := rfl
  rw [e] at q
  have hpl : k.es.length = d.past.length := paired_len hB.past
  have hfl : k.ls.length = d.future.length := paired_len hB.fut
  refine ⟨_, rfl, b, B, k.dx, _, _, rfl, hB.book, TB.cB, TB.b1, book_ship _ _ _, ?_⟩
  refine ⟨_, rfl, k.a, C.S, z.dx, _, _, rfl, hS.ship, T.cS, T.s2, ship_parties _ _, z.lp, rfl, ⟨_, SqL.of hS.lp⟩, fun D hD => ?_⟩
  have sD : Same H (upd H D (.lst [])) := same_new hD _
  refine lc_list (K := K) (a := z.lp) (xs := z.ps.map V.ref) (fun i H' => Same H H' ∧ ∃ acc : List V, H' D = some (.lst acc) ∧ acc.length = ((d.now.parties.take i).filter fun p => p.gone).length) ⟨sD, [], upd_same, rfl⟩ (fun i H' _ h => SqL.of (h.1 _ _ hS.lp)) ?_ ?_
  · rintro i y H' hi ⟨s2, acc, hD2, hacc⟩
    obtain ⟨c, hc, rfl⟩ := map_ref hi
    have hiP : i < d.now.parties.length := by
      rw [← hS.plen]
      exact (List.getElem?_eq_some_iff.mp hc).1
    have hpi := List.getElem?_eq_getElem hiP
    obtain ⟨dc, hc2⟩ := hS.par i c _ hc hpi
    have es : ((d.now.parties.take (i + 1)).filter fun p => p.gone).length = ((d.now.parties.take i).filter fun p => p.gone).length + (if d.now.parties[i].gone = true then 1 else 0) := by
      rw [take_snoc hpi, List.filter_append, List.length_append, List.filter_cons]
      cases d.now.parties[i].gone <;> rfl
    have hle : ((d.now.parties.take i).filter fun p => p.gone).length ≤ 8 := by
      have h1 := List.length_filter_le (fun p : Party => p.gone) (d.now.parties.take i)
      rw [List.length_take] at h1
      have := hW.par
      omega
    refine ⟨rfl, _, rfl, c, C.P, dc, _, _, rfl, s2 _ _ hc2, T.cP, T.p5, par_gone _, _, rfl, ?_⟩
    cases eg : d.now.parties[i].gone with
    | true =>
      rw [eg, if_pos rfl] at es
      refine yes rfl ⟨_, rfl, _, hD2, by rw [hacc]; exact small1000 (by omega), fun b u e => by rw [upd_ne (ne_of_none e hD)]; exact s2 b u e, _, upd_same, ?_⟩
      rw [es, List.length_append, hacc]
      rfl
    | false =>
      rw [eg, if_neg Bool.false_ne_true] at es
      exact no rfl ⟨s2, acc, hD2, by rw [es]; exact hacc⟩
  · rintro H2 ⟨s2, acc, hD2, hacc⟩
    rw [List.length_map, hS.plen, List.take_length] at hacc
    refine ⟨_, rfl, k.a, C.S, z.dx, _, _, rfl, s2 _ _ hS.ship, T.cS, T.s1, ship_cabins _ _, z.lc, _, rfl, .inl (SqL.of (s2 _ _ hS.lc)), ?_⟩
    refine ⟨_, rfl, k.a, C.S, z.dx, _, _, rfl, s2 _ _ hS.ship, T.cS, T.s2, ship_parties _ _, z.lp, _, rfl, .inl (SqL.of (s2 _ _ hS.lp)), ?_⟩
    refine ⟨_, rfl, D, _, rfl, .inl (SqL.of hD2), ?_⟩
    refine ⟨_, rfl, b, B, k.dx, _, _, rfl, s2 _ _ hB.book, TB.cB, TB.b2, book_earlier _ _ _, k.le, _, rfl, .inl (SqL.of (s2 _ _ hB.le)), ?_⟩
    refine ⟨_, rfl, b, B, k.dx, _, _, rfl, s2 _ _ hB.book, TB.cB, TB.b3, book_later _ _ _, k.ll, _, rfl, .inl (SqL.of (s2 _ _ hB.ll)), ?_⟩
    refine ask_fin q (Same.t s2) (hT.same s2) ?_ (by show 5 ≤ 9; decide)
    rw [List.length_map, List.length_map, List.length_map, List.length_map, List.length_reverse, List.length_reverse, hS.clen, hS.plen, hacc, hpl, hfl]
    rfl
end
end Cg

end
section
set_option Elab.async false
set_option linter.all false
set_option maxRecDepth 100000
set_option maxHeartbeats 4000000
namespace Cg
open PySem PySem.Spec PyProof.Rows L2
open Km437 (Cabin Party Ship Desk Call act)
/-! ## The purser: the changes -/
abbrev sAChange : Stmt := top 90
abbrev sCShip : Stmt := top 91
def mkOf : Nat → List Nat → Call
  | 0, _ => .start
  | 1, ns => mkCabin ns
  | 2, ns => mkParty ns
  | 3, ns => mkGive ns
  | 4, ns => mkLeave ns
  | 5, ns => mkShut ns
  | 6, ns => mkMove ns
  | 7, ns => mkSwap ns
  | 8, _ => .take
  | 9, ns => mkPay ns
  | 10, ns => mkDoes ns
  | 11, ns => mkMost ns
  | 12, ns => mkPlan ns
  | 13, ns => mk1 .would ns
  | 14, ns => mk1 .choices ns
  | 15, ns => mk1 .beside ns
  | 16, ns => mk1 .who ns
  | 17, ns => mk1 .look ns
  | 18, ns => mk1 .see ns
  | 19, ns => mk0 .frees ns
  | 20, ns => mk0 .better ns
  | 21, ns => mk0 .sums ns
  | 22, _ => .back
  | 23, _ => .again
  | _, _ => .state
structure FrC (Pt : Addr) (z z' : Sh) (H H' : Hp) : Prop where
  keep : ∀ b o, H b = some o → b ∉ z.foot → b ≠ Pt → H' b = some o
  new : ∀ b, b ∈ z'.foot → b ∈ z.foot ∨ H b = none
theorem Frame.c {Pt : Addr} {z z' : Sh} {H H' : Hp} (h : Frame z z' H H') : FrC Pt z z' H H' := ⟨fun b o e n _ => h.keep b o e n, h.new⟩
theorem tab_keep {Pt : Addr} {H H' : Hp} (hT : Tab Pt H) (k : ∀ b o, H b = some o → ((∃ ps, o = .tbl ps) ∨ ∃ φ, o = .ext φ) → H' b = some o) : Tab Pt H' := by
  obtain ⟨ps, h1, h2⟩ := hT
  refine ⟨ps, k _ _ h1 (.inl ⟨_, rfl⟩), ?_⟩
  rcases h2 with h2 | ⟨c', h2, h3⟩
  · exact .inl h2
  · exact .inr ⟨c', h2, k _ _ h3 (.inr ⟨_, rfl⟩)⟩
theorem Frame.tab {C : Cl} {Pt a : Addr} {z z' : Sh} {s : Ship} {H H' : Hp} (h : Frame z z' H H') (hS : ShipAt C H a z s) (hT : Tab Pt H) : Tab Pt H' := tab_keep hT fun b o e ho => h.keep b o e fun hf => by
  obtain ⟨o', e', f1, _, f3⟩ := foot_at hS hf
  rw [e] at e'
  have e' := Option.some.inj e'
  subst e'
  rcases ho with ⟨ps, ho⟩ | ⟨φ, ho⟩
  · exact f1 ps ho
  · exact f3 φ ho
theorem FrS.tab {C : Cl} {B t Pt b : Addr} {k k' : Bk} {d : Desk} {H H' : Hp} (h : FrS b k k' H H') (hB : BookAt C B t H b k d) (hT : Tab Pt H) : Tab Pt H' := tab_keep hT fun x o e ho => by
  have n1 : ∀ y d' fs, o ≠ .ins y d' fs := fun _ _ _ z => by rcases ho with ⟨_, ho⟩ | ⟨_, ho⟩ <;> rw [ho] at z <;> cases z
  have n2 : ∀ xs, o ≠ .lst xs := fun _ z => by rcases ho with ⟨_, ho⟩ | ⟨_, ho⟩ <;> rw [ho] at z <;> cases z
  exact h.keep x o e (ne_of e hB.book (n1 _ _ _)) (ne_of e hB.le (n2 _)) (ne_of e hB.ll (n2 _))
def spCS (C : Cl) (Pt : Addr) : Sp := fun vs H Q _ => ∃ (a g : Addr) (z : Sh) (s : Ship) (j : Nat) (ns : List Nat), vs = [.ref a, nV j, .ref g] ∧ ShipAt C H a z s ∧ Wf s ∧ Tab Pt H ∧ LstN H g ns ∧ ns.length = width j ∧ 1 ≤ j ∧ j ≤ 9 ∧
  ∀ (H' : Hp) (z' : Sh), ShipAt C H' a z' (chgS s (mkOf j ns)) → FrC Pt z z' H H' → Tab Pt H' → Q (.int (chgV s (mkOf j ns))) H'
structure Cgs (mg : Str → Option Value) : Prop where
  c0 : Cn mg "CG_START" 0
  c1 : Cn mg "CG_CABIN" 1
  c2 : Cn mg "CG_PARTY" 2
  c3 : Cn mg "CG_GIVE" 3
  c4 : Cn mg "CG_LEAVE" 4
  c5 : Cn mg "CG_SHUT" 5
  c6 : Cn mg "CG_MOVE" 6
  c7 : Cn mg "CG_SWAP" 7
  c8 : Cn mg "CG_TAKE" 8
  c9 : Cn mg "CG_PAY" 9
  c10 : Cn mg "CG_DOES" 10
  c11 : Cn mg "CG_MOST" 11
  c12 : Cn mg "CG_PLAN" 12
  c13 : Cn mg "CG_WOULD" 13
  c14 : Cn mg "CG_CHOICES" 14
  c15 : Cn mg "CG_BESIDE" 15
  c16 : Cn mg "CG_WHO" 16
  c17 : Cn mg "CG_LOOK" 17
  c18 : Cn mg "CG_SEE" 18
  c19 : Cn mg "CG_FREES" 19
  c20 : Cn mg "CG_BETTER" 20
  c21 : Cn mg "CG_SUMS" 21
  c22 : Cn mg "CG_BACK" 22
  c23 : Cn mg "CG_AGAIN" 23
structure Chs (P : Program) (w : World) (K : PySem.W.Frag) (mg : Str → Option Value) (base : Heap) (C : Cl) (Pt : Addr) (f : Nat → Addr) (d : Nat → FuncData) : Prop where
  cab : Df P w K mg base 5 "add_cabin" ["ship", "deck", "place", "rank", "berths", "flat"] (spChg C 5 mkCabin) (f 0) (d 0)
  par : Df P w K mg base 5 "add_party" ["ship", "many", "rank", "flat"] (spChg C 3 mkParty) (f 1) (d 1)
  giv : Df P w K mg base 5 "give_cabin" ["ship", "p", "k"] (spChg C 2 mkGive) (f 2) (d 2)
  lea : Df P w K mg base 5 "leave_ship" ["ship", "p"] (spChg C 1 mkLeave) (f 3) (d 3)
  shu : Df P w K mg base 5 "shut_cabin" ["ship", "k", "out"] (spChg C 2 mkShut) (f 4) (d 4)
  mov : Df P w K mg base 5 "move_party" ["ship", "p", "k"] (spChg C 2 mkMove) (f 5) (d 5)
  swa : Df P w K mg base 5 "swap_parties" ["ship", "p", "q"] (spChg C 2 mkSwap) (f 6) (d 6)
  tak : Df P w K mg base 18 "take_plan" ["ship"] (spTake C Pt) (f 7) (d 7)
  pay : Df P w K mg base 5 "pay_class" ["ship", "p", "rank"] (spChg C 2 mkPay) (f 8) (d 8)
theorem nV_is (j n : Nat) : decide (nV j = V.int (n : Int)) = decide (j = n) := by
  show decide (nV j = nV n) = _
  rw [nV_eq]
  exact Bool.beq_eq_decide_eq j n
section
variable {P : Program} {w : World} {K : PySem.W.Frag} {mg : Str → Option Value} {base : Heap} {C : Cl} {B t : Addr}
theorem scCShip : FnScope ["ship", "call", "given"] ["ship", "call", "given"] (defScope sCShip) := ⟨rfl, rfl, rfl, by decide +kernel, rfl, by decide +kernel, by decide +kernel⟩
theorem ok_cShip {f Pt : Addr} {fd : FuncData} {fa : Nat → Addr} {fds : Nat → FuncData} (F : Fun K "change_ship" "change_ship" sCShip f fd) (G : Cgs mg) (D : Chs P w K mg base C Pt fa fds) : FnOk P w K mg base CX0 19 f fd ["ship", "call", "given"] (spCS C Pt) := by
  refine F.ok scCShip (fun vs H Q E h => ?_) (fun cdv A outer s H vs Q E hr h => ?_)
  · obtain ⟨a, g, z, s, j, ns, rfl, _⟩ := h
    rfl
  obtain ⟨a, g, z, sh, j, ns, rfl, hS, hW, hT, hg, hn, h1, h9, q⟩ := h
  obtain ⟨u1, m1, r1⟩ := G.c1
  obtain ⟨u2, m2, r2⟩ := G.c2
  obtain ⟨u3, m3, r3⟩ := G.c3
  obtain ⟨u4, m4, r4⟩ := G.c4
  obtain ⟨u5, m5, r5⟩ := G.c5
  obtain ⟨u6, m6, r6⟩ := G.c6
  obtain ⟨u7, m7, r7⟩ := G.c7
  obtain ⟨u8, m8, r8⟩ := G.c8
  have hr5 : Room 5 _ := hr.mono (by decide)
  refine ⟨_, pss_cons (ps_if (pt_cmpR op_eq (pv 1) (pe_glob rfl m1 r1) (nomark _)) (pss_one (ps_ret (pe_call D.cab.ok hr5 rfl D.cab.m D.cab.kp D.cab.b .nil pass0 (pa_cons (pv 0) (pa_cons (pe_ix ix_list (pv 2) pe_int (fun _ _ => rfl)) (pa_cons (pe_ix ix_list (pv 2) pe_int (fun _ _ => rfl)) (pa_cons (pe_ix ix_list (pv 2) pe_int (fun _ _ => rfl)) (pa_cons (pe_ix ix_list (pv 2) pe_int (fun _ _ => rfl)) (pa_cons (pe_ix ix_list (pv 2) pe_int (fun _ _ => rfl)) pa_nil))))))))) pss_nil)
    (pss_cons (ps_if (pt_cmpR op_eq (pv 1) (pe_glob rfl m2 r2) (nomark _)) (pss_one (ps_ret (pe_call D.par.ok hr5 rfl D.par.m D.par.kp D.par.b .nil pass0 (pa_cons (pv 0) (pa_cons (pe_ix ix_list (pv 2) pe_int (fun _ _ => rfl)) (pa_cons (pe_ix ix_list (pv 2) pe_int (fun _ _ => rfl)) (pa_cons (pe_ix ix_list (pv 2) pe_int (fun _ _ => rfl)) pa_nil))))))) pss_nil)
    (pss_cons (ps_if (pt_cmpR op_eq (pv 1) (pe_glob rfl m3 r3) (nomark _)) (pss_one (ps_ret (pe_call D.giv.ok hr5 rfl D.giv.m D.giv.kp D.giv.b .nil pass0 (pa_cons (pv 0) (pa_cons (pe_ix ix_list (pv 2) pe_int (fun _ _ => rfl)) (pa_cons (pe_ix ix_list (pv 2) pe_int (fun _ _ => rfl)) pa_nil)))))) pss_nil)
    (pss_cons (ps_if (pt_cmpR op_eq (pv 1) (pe_glob rfl m4 r4) (nomark _)) (pss_one (ps_ret (pe_call D.lea.ok hr5 rfl D.lea.m D.lea.kp D.lea.b .nil pass0 (pa_cons (pv 0) (pa_cons (pe_ix ix_list (pv 2) pe_int (fun _ _ => rfl)) pa_nil))))) pss_nil)
    (pss_cons (ps_if (pt_cmpR op_eq (pv 1) (pe_glob rfl m5 r5) (nomark _)) (pss_one (ps_ret (pe_call D.shu.ok hr5 rfl D.shu.m D.shu.kp D.shu.b .nil pass0 (pa_cons (pv 0) (pa_cons (pe_ix ix_list (pv 2) pe_int (fun _ _ => rfl)) (pa_cons (pe_ix ix_list (pv 2) pe_int (fun _ _ => rfl)) pa_nil)))))) pss_nil)
    (pss_cons (ps_if (pt_cmpR op_eq (pv 1) (pe_glob rfl m6 r6) (nomark _)) (pss_one (ps_ret (pe_call D.mov.ok hr5 rfl D.mov.m D.mov.kp D.mov.b .nil pass0 (pa_cons (pv 0) (pa_cons (pe_ix ix_list (pv 2) pe_int (fun _ _ => rfl)) (pa_cons (pe_ix ix_list (pv 2) pe_int (fun _ _ => rfl)) pa_nil)))))) pss_nil)
    (pss_cons (ps_if (pt_cmpR op_eq (pv 1) (pe_glob rfl m7 r7) (nomark _)) (pss_one (ps_ret (pe_call D.swa.ok hr5 rfl D.swa.m D.swa.kp D.swa.b .nil pass0 (pa_cons (pv 0) (pa_cons (pe_ix ix_list (pv 2) pe_int (fun _ _ => rfl)) (pa_cons (pe_ix ix_list (pv 2) pe_int (fun _ _ => rfl)) pa_nil)))))) pss_nil)
    (pss_cons (ps_if (pt_cmpR op_eq (pv 1) (pe_glob rfl m8 r8) (nomark _)) (pss_one (ps_ret (pe_call D.tak.ok hr rfl D.tak.m D.tak.kp D.tak.b .nil pass0 (pa_cons (pv 0) pa_nil)))) pss_nil)
    (pss_one (ps_ret (pe_call D.pay.ok hr5 rfl D.pay.m D.pay.kp D.pay.b .nil pass0 (pa_cons (pv 0) (pa_cons (pe_ix ix_list (pv 2) pe_int (fun _ _ => rfl)) (pa_cons (pe_ix ix_list (pv 2) pe_int (fun _ _ => rfl)) pa_nil))))))))))))), ?_⟩
  have fin : ∀ {m : Nat} {mk : List Nat → Call}, ns.length = m → mkOf j ns = mk ns → spChg C m mk (.ref a :: ns.map nV) H Q E0 := fun {m mk} hm e => ⟨a, z, sh, ns, rfl, hm, hS, hW, fun H' z' h1 h2 => by
    have := q H' z' (by rw [e]; exact h1) h2.c (h2.tab hS hT)
    rw [e] at this
    exact this⟩
  have nx : ∀ {n : Nat} {X Y : Prop}, j ≠ n → Y → if decide (nV j = V.int (n : Int)) = true then X else Y := fun hjn y => no (by rw [nV_is]; exact decide_eq_false hjn) y
  have ys : ∀ {n : Nat} {X Y : Prop}, j = n → X → if decide (nV j = V.int (n : Int)) = true then X else Y := fun hjn y => yes (by rw [nV_is]; exact decide_eq_true hjn) y
  refine ⟨_, rfl, rfl, _, rfl, ?_⟩
  by_cases e1 : j = 1
  · subst e1
    obtain ⟨a1, a2, a3, a4, a5, rfl⟩ := len5 hn
    exact ys rfl ⟨_, rfl, _, rfl, g, _, _, _, rfl, rfl, SqL.of hg, atI_nat (j := 0) rfl, _, rfl, g, _, _, _, rfl, rfl, SqL.of hg, atI_nat (j := 1) rfl, _, rfl, g, _, _, _, rfl, rfl, SqL.of hg, atI_nat (j := 2) rfl, _, rfl, g, _, _, _, rfl, rfl, SqL.of hg, atI_nat (j := 3) rfl, _, rfl, g, _, _, _, rfl, rfl, SqL.of hg, atI_nat (j := 4) rfl, fin rfl rfl⟩
  refine nx e1 ⟨_, rfl, rfl, _, rfl, ?_⟩
  by_cases e2 : j = 2
  · subst e2
    obtain ⟨a1, a2, a3, rfl⟩ := len3 hn
    exact ys rfl ⟨_, rfl, _, rfl, g, _, _, _, rfl, rfl, SqL.of hg, atI_nat (j := 0) rfl, _, rfl, g, _, _, _, rfl, rfl, SqL.of hg, atI_nat (j := 1) rfl, _, rfl, g, _, _, _, rfl, rfl, SqL.of hg, atI_nat (j := 2) rfl, fin rfl rfl⟩
  refine nx e2 ⟨_, rfl, rfl, _, rfl, ?_⟩
  by_cases e3 : j = 3
  · subst e3
    obtain ⟨a1, a2, rfl⟩ := len2 hn
    exact ys rfl ⟨_, rfl, _, rfl, g, _, _, _, rfl, rfl, SqL.of hg, atI_nat (j := 0) rfl, _, rfl, g, _, _, _, rfl, rfl, SqL.of hg, atI_nat (j := 1) rfl, fin rfl rfl⟩
  refine nx e3 ⟨_, rfl, rfl, _, rfl, ?_⟩
  by_cases e4 : j = 4
  · subst e4
    obtain ⟨a1, rfl⟩ := len1 hn
    exact ys rfl ⟨_, rfl, _, rfl, g, _, _, _, rfl, rfl, SqL.of hg, atI_nat (j := 0) rfl, fin rfl rfl⟩
  refine nx e4 ⟨_, rfl, rfl, _, rfl, ?_⟩
  by_cases e5 : j = 5
  · subst e5
    obtain ⟨a1, a2, rfl⟩ := len2 hn
    exact ys rfl ⟨_, rfl, _, rfl, g, _, _, _, rfl, rfl, SqL.of hg, atI_nat (j := 0) rfl, _, rfl, g, _, _, _, rfl, rfl, SqL.of hg, atI_nat (j := 1) rfl, fin rfl rfl⟩
  refine nx e5 ⟨_, rfl, rfl, _, rfl, ?_⟩
  by_cases e6 : j = 6
  · subst e6
    obtain ⟨a1, a2, rfl⟩ := len2 hn
    exact ys rfl ⟨_, rfl, _, rfl, g, _, _, _, rfl, rfl, SqL.of hg, atI_nat (j := 0) rfl, _, rfl, g, _, _, _, rfl, rfl, SqL.of hg, atI_nat (j := 1) rfl, fin rfl rfl⟩
  refine nx e6 ⟨_, rfl, rfl, _, rfl, ?_⟩
  by_cases e7 : j = 7
  · subst e7
    obtain ⟨a1, a2, rfl⟩ := len2 hn
    exact ys rfl ⟨_, rfl, _, rfl, g, _, _, _, rfl, rfl, SqL.of hg, atI_nat (j := 0) rfl, _, rfl, g, _, _, _, rfl, rfl, SqL.of hg, atI_nat (j := 1) rfl, fin rfl rfl⟩
  refine nx e7 ⟨_, rfl, rfl, _, rfl, ?_⟩
  by_cases e8 : j = 8
  · subst e8
    exact ys rfl ⟨_, rfl, a, z, sh, rfl, hS, hW, hT, fun H' h1 h2 h3 => q H' z h1 ⟨h2, fun b hb => .inl hb⟩ h3⟩
  refine nx e8 ?_
  have e9 : j = 9 := by omega
  subst e9
  obtain ⟨a1, a2, rfl⟩ := len2 hn
  exact ⟨_, rfl, _, rfl, g, _, _, _, rfl, rfl, SqL.of hg, atI_nat (j := 0) rfl, _, rfl, g, _, _, _, rfl, rfl, SqL.of hg, atI_nat (j := 1) rfl, fin rfl rfl⟩
end
end Cg

end
section
set_option Elab.async false
set_option linter.all false
set_option maxRecDepth 100000
set_option maxHeartbeats 4000000
namespace Cg
open PySem PySem.Spec PyProof.Rows L2
open Km437 (Cabin Party Ship Desk Call act)
open Km437Neutral (told)
abbrev sAskH : Stmt := top 92
abbrev sAsk1 : Stmt := top 93
abbrev sAskA : Stmt := top 94
abbrev sByBook : Stmt := top 95
abbrev sACall : Stmt := top 89
theorem is_change {j : Nat} {ns : List Nat} (hn : ns.length = width j) (h1 : 1 ≤ j) (h9 : j ≤ 9) : isChange (mkOf j ns) = true := by
  have : j = 1 ∨ j = 2 ∨ j = 3 ∨ j = 4 ∨ j = 5 ∨ j = 6 ∨ j = 7 ∨ j = 8 ∨ j = 9 := by omega
  rcases this with rfl | rfl | rfl | rfl | rfl | rfl | rfl | rfl | rfl
  · obtain ⟨a1, a2, a3, a4, a5, rfl⟩ := len5 hn
    rfl
  · obtain ⟨a1, a2, a3, rfl⟩ := len3 hn
    rfl
  · obtain ⟨a1, a2, rfl⟩ := len2 hn
    rfl
  · obtain ⟨a1, rfl⟩ := len1 hn
    rfl
  · obtain ⟨a1, a2, rfl⟩ := len2 hn
    rfl
  · obtain ⟨a1, a2, rfl⟩ := len2 hn
    rfl
  · obtain ⟨a1, a2, rfl⟩ := len2 hn
    rfl
  · rfl
  · obtain ⟨a1, a2, rfl⟩ := len2 hn
    rfl
theorem ask_act {j : Nat} {ns : List Nat} (d : Desk) (hn : ns.length = width j) (h1 : 10 ≤ j) (h9 : j ≤ 21) : (act d (mkOf j ns)).1 = d ∧ told (act d (mkOf j ns)).2 = askL d.now (mkOf j ns) := by
  have : j = 10 ∨ j = 11 ∨ j = 12 ∨ j = 13 ∨ j = 14 ∨ j = 15 ∨ j = 16 ∨ j = 17 ∨ j = 18 ∨ j = 19 ∨ j = 20 ∨ j = 21 := by omega
  rcases this with rfl | rfl | rfl | rfl | rfl | rfl | rfl | rfl | rfl | rfl | rfl | rfl
  · obtain ⟨a1, a2, rfl⟩ := len2 hn
    exact ⟨rfl, rfl⟩
  · exact ⟨rfl, rfl⟩
  · exact ⟨rfl, rfl⟩
  all_goals first
    | exact ⟨rfl, rfl⟩
    | (obtain ⟨a1, rfl⟩ := len1 hn
       exact ⟨rfl, rfl⟩)
def spAC (C : Cl) (B t Pt : Addr) : Sp := fun vs H Q _ => ∃ (b g : Addr) (k : Bk) (d : Desk) (j : Nat) (ns : List Nat), vs = [.ref b, nV j, .ref g] ∧ BookAt C B t H b k d ∧ Tab Pt H ∧ LstN H g ns ∧ ns.length = width j ∧ 1 ≤ j ∧ j ≤ 9 ∧
  ∀ (H' : Hp) (k' : Bk), BookAt C B t H' b k' (act d (mkOf j ns)).1 → FrB b k k' H H' → (∀ x, H' x = none → H x = none) → Tab Pt H' → Q (.int (act d (mkOf j ns)).2.value) H'
def spAH (C : Cl) (Pt : Addr) : Sp := fun vs H Q _ => ∃ (a g : Addr) (z : Sh) (s : Ship) (j : Nat) (ns : List Nat), vs = [.ref a, nV j, .ref g] ∧ ShipAt C H a z s ∧ Wf s ∧ Tab Pt H ∧ LstN H g ns ∧ ns.length = width j ∧ 10 ≤ j ∧ j ≤ 12 ∧
  ∀ (H' : Hp) (r : Addr), H r = none → SameT Pt H H' → Tab Pt H' → H' r = some (.lst ((askL s (mkOf j ns)).map V.int)) → Q (.ref r) H'
def spA1 (C : Cl) (Pt : Addr) : Sp := fun vs H Q _ => ∃ (a : Addr) (z : Sh) (s : Ship) (j n : Nat), vs = [.ref a, nV j, nV n] ∧ ShipAt C H a z s ∧ Wf s ∧ Tab Pt H ∧ 13 ≤ j ∧ j ≤ 18 ∧
  ∀ (H' : Hp) (r : Addr), H r = none → SameT Pt H H' → Tab Pt H' → H' r = some (.lst ((askL s (mkOf j [n])).map V.int)) → Q (.ref r) H'
def spAA (C : Cl) (Pt : Addr) : Sp := fun vs H Q _ => ∃ (a : Addr) (z : Sh) (s : Ship) (j : Nat), vs = [.ref a, nV j] ∧ ShipAt C H a z s ∧ Wf s ∧ Tab Pt H ∧ 19 ≤ j ∧ j ≤ 21 ∧
  ∀ (H' : Hp) (r : Addr), H r = none → SameT Pt H H' → Tab Pt H' → H' r = some (.lst ((askL s (mkOf j [])).map V.int)) → Q (.ref r) H'
def spBB (C : Cl) (B t Pt : Addr) : Sp := fun vs H Q _ => ∃ (b : Addr) (k : Bk) (d : Desk) (j : Nat), vs = [.ref b, nV j] ∧ BookAt C B t H b k d ∧ Tab Pt H ∧ 22 ≤ j ∧ j ≤ 24 ∧
  ∀ (H' : Hp) (k' : Bk) (r : Addr), BookAt C B t H' b k' (act d (mkOf j [])).1 → FrB b k k' H H' → Tab Pt H' → H r = none → H' r = some (.lst ((told (act d (mkOf j [])).2).map V.int)) → Q (.ref r) H'
def spAns (C : Cl) (B t Pt : Addr) : Sp := fun vs H Q _ => ∃ (b g : Addr) (k : Bk) (d : Desk) (j : Nat) (ns : List Nat), vs = [.ref b, nV j, .ref g] ∧ BookAt C B t H b k d ∧ Tab Pt H ∧ LstN H g ns ∧ ns.length = width j ∧ j < 25 ∧
  ∀ (H' : Hp) (k' : Bk) (r : Addr), BookAt C B t H' b k' (act d (mkOf j ns)).1 → FrB b k k' H H' → Tab Pt H' → H r = none → H' r = some (.lst ((told (act d (mkOf j ns)).2).map V.int)) → Q (.ref r) H'
theorem told_only (v : Int) : told (Km437.only v) = [v] := rfl
theorem told_value (a : Km437.Ans) (h : a = Km437.only a.value) : told a = [a.value] := by
  rw [h]
  rfl
section
variable {P : Program} {w : World} {K : PySem.W.Frag} {mg : Str → Option Value} {base : Heap} {C : Cl} {B t : Addr}
theorem scAChange : FnScope ["book", "call", "given", "changed", "answer"] ["book", "call", "given"] (defScope sAChange) := ⟨rfl, rfl, rfl, by decide +kernel, rfl, by decide +kernel, by decide +kernel⟩
theorem ok_aChange {f fY fS gE Pt : Addr} {fd dY dS eE : FuncData} (F : Fun K "answer_change" "answer_change" sAChange f fd) (TB : TxtB K B) (DY : Df P w K mg base 4 "copy_of_ship" ["ship"] (spCopyS C) fY dY) (DS : Df P w K mg base 19 "change_ship" ["ship", "call", "given"] (spCS C Pt) fS dS)
    (ME : Mt P w K mg base B 1 "enter_change" ["self", "changed"] (spEnter C B t) gE eE) : FnOk P w K mg base CX0 20 f fd ["book", "call", "given"] (spAC C B t Pt) := by
  refine F.ok scAChange (fun vs H Q E h => ?_) (fun cdv A outer s H vs Q E hr h => ?_)
  · obtain ⟨b, g, k, d, j, ns, rfl, _⟩ := h
    rfl
  obtain ⟨b, g, k, d, j, ns, rfl, hB, hT, hg, hn, h1, h9, q⟩ := h
  refine ⟨_, pss_cons (ps_set (i := 3) scAChange.nd rfl (Or.inl rfl) (pe_call DY.ok (hr.mono (by decide)) rfl DY.m DY.kp DY.b .nil pass0 (pa_cons (pe_fld (pv 0) rfl) pa_nil)))
    (pss_cons (ps_set (i := 4) scAChange.nd rfl (Or.inl rfl) (pe_call DS.ok hr rfl DS.m DS.kp DS.b .nil pass0 (pa_cons (pv 3) (pa_cons (pv 1) (pa_cons (pv 2) pa_nil)))))
    (pss_cons (ps_if (pt_cmpR op_ge (pv 4) pe_int (nomark _)) (pss_one (ps_expr (pe_meth (pv 0) TB.cB ME.mt ME.ok (hr.mono (by decide)) ME.b .nil pass0 (pa_cons (pv 3) pa_nil)))) pss_nil)
    (pss_one (ps_ret (pv 4))))), ?_⟩
  obtain ⟨z, hS, hW, hz1, hz2, hz3⟩ := hB.now
  have hx := is_change hn h1 h9
  obtain ⟨⟨hd1, hd2⟩, hd3⟩ := act_did d (mkOf j ns) hx
  have hWx := wf_chg hW (mkOf j ns) hx
  refine ⟨_, rfl, b, B, k.dx, _, _, rfl, hB.book, TB.cB, TB.b1, book_ship _ _ _, k.a, z, d.now, rfl, hS, hW, fun H1 c z1 nc nf s1 hS1 => ?_⟩
  refine ⟨_, rfl, _, rfl, _, rfl, c, g, z1, d.now, j, ns, rfl, hS1, hW, hT.same s1, s1 _ _ hg, hn, h1, h9, fun H2 z2 hS2 fc hT2 => ?_⟩
  have kp : ∀ x o, H x = some o → x ≠ Pt → H2 x = some o := fun x o e n => fc.keep x o (s1 _ _ e) (fun hf => by rw [nf x hf] at e; cases e) n
  have kt : ∀ x o, H x = some o → (∀ ps, o ≠ .tbl ps) → H2 x = some o := fun x o e n => kp x o e (hT.ne e n)
  have live : ∀ x, H2 x = none → H x = none := fun x hx => by
    cases e : H x with
    | none => rfl
    | some o =>
      by_cases hP : x = Pt
      · obtain ⟨ps, hp, _⟩ := hT2
        rw [hP, hp] at hx
        cases hx
      · rw [kp x o e hP] at hx
        cases hx
  have hB2 := hB.keep kt
  refine ⟨_, rfl, _, _, rfl, rfl, _, rfl, ?_⟩
  rw [← hd3]
  rcases hd2 with ⟨hneg, hd, _⟩ | ⟨hpos, hd⟩
  · refine no (decide_eq_false (by omega)) ⟨_, rfl, ?_⟩
    exact q H2 k (by rw [hd]; exact hB2) (FrB.same kt) live hT2
  · have out : ∀ y, H y ≠ none → y ∉ z2.foot := fun y hy hf => by
      rcases fc.new y hf with w | w
      · exact hy (nf y w)
      · exact hy (s1.free w)
    have hCin : ShipIn C H2 t k.le k.ll c (chgS d.now (mkOf j ns)) := ⟨z2, hS2, hWx, out _ (by rw [hB.le]; exact Option.some_ne_none _), out _ (by rw [hB.ll]; exact Option.some_ne_none _), out _ (by obtain ⟨xs, ht⟩ := hB.tl; rw [ht]; exact Option.some_ne_none _)⟩
    refine yes (decide_eq_true hpos) ⟨_, rfl, b, k.dx, _, rfl, hB2.book, book_no (by decide) (by decide) (by decide), _, rfl, b, c, k, d, _, rfl, hB2, hCin, fun H3 k' hB3 fs => ?_⟩
    refine ⟨_, rfl, q H3 k' (by rw [hd]; exact hB3) ⟨fun x o e n n1 n2 n3 => fs.keep x o (kt x o e n) n1 n2 n3, ?_, ?_⟩ (fun x hx => live x (fs.live x hx)) (fs.tab hB2 hT2)⟩
    · rcases fs.le with w | w | w
      · exact .inl w
      · exact .inr (.inl w)
      · exact .inr (.inr (live _ w))
    · rcases fs.ll with w | w | w
      · exact .inl w
      · exact .inr (.inl w)
      · exact .inr (.inr (live _ w))
theorem scAskH : FnScope ["ship", "call", "given"] ["ship", "call", "given"] (defScope sAskH) := ⟨rfl, rfl, rfl, by decide +kernel, rfl, by decide +kernel, by decide +kernel⟩
theorem ok_askH {f f1 f2 f3 Pt : Addr} {fd d1 d2 d3 : FuncData} (F : Fun K "ask_of_housing" "ask_of_housing" sAskH f fd) (G : Cgs mg) (D1 : Df P w K mg base 5 "tell_does" ["ship", "p", "k"] (spAsk C Pt 2 mkDoes) f1 d1) (D2 : Df P w K mg base 16 "tell_most" ["ship"] (spAsk C Pt 0 mkMost) f2 d2) (D3 : Df P w K mg base 18 "tell_plan" ["ship"] (spAsk C Pt 0 mkPlan) f3 d3) :
    FnOk P w K mg base CX0 19 f fd ["ship", "call", "given"] (spAH C Pt) := by
  refine F.ok scAskH (fun vs H Q E h => ?_) (fun cdv A outer s H vs Q E hr h => ?_)
  · obtain ⟨a, g, z, s, j, ns, rfl, _⟩ := h
    rfl
  obtain ⟨a, g, z, sh, j, ns, rfl, hS, hW, hT, hg, hn, h1, h9, q⟩ := h
  obtain ⟨u10, m10, r10⟩ := G.c10
  obtain ⟨u11, m11, r11⟩ := G.c11
  refine ⟨_, pss_cons (ps_if (pt_cmpR op_eq (pv 1) (pe_glob rfl m10 r10) (nomark _)) (pss_one (ps_ret (pe_call D1.ok (hr.mono (by decide)) rfl D1.m D1.kp D1.b .nil pass0 (pa_cons (pv 0) (pa_cons (pe_ix ix_list (pv 2) pe_int (fun _ _ => rfl)) (pa_cons (pe_ix ix_list (pv 2) pe_int (fun _ _ => rfl)) pa_nil)))))) pss_nil)
    (pss_cons (ps_if (pt_cmpR op_eq (pv 1) (pe_glob rfl m11 r11) (nomark _)) (pss_one (ps_ret (pe_call D2.ok (hr.mono (by decide)) rfl D2.m D2.kp D2.b .nil pass0 (pa_cons (pv 0) pa_nil)))) pss_nil)
    (pss_one (ps_ret (pe_call D3.ok hr rfl D3.m D3.kp D3.b .nil pass0 (pa_cons (pv 0) pa_nil))))), ?_⟩
  have nx : ∀ {n : Nat} {X Y : Prop}, j ≠ n → Y → if decide (nV j = V.int (n : Int)) = true then X else Y := fun hjn y => no (by rw [nV_is]; exact decide_eq_false hjn) y
  have ys : ∀ {n : Nat} {X Y : Prop}, j = n → X → if decide (nV j = V.int (n : Int)) = true then X else Y := fun hjn y => yes (by rw [nV_is]; exact decide_eq_true hjn) y
  refine ⟨_, rfl, rfl, _, rfl, ?_⟩
  by_cases e1 : j = 10
  · subst e1
    obtain ⟨a1, a2, rfl⟩ := len2 hn
    exact ys rfl ⟨_, rfl, _, rfl, g, _, _, _, rfl, rfl, SqL.of hg, atI_nat (j := 0) rfl, _, rfl, g, _, _, _, rfl, rfl, SqL.of hg, atI_nat (j := 1) rfl, a, z, sh, [a1, a2], rfl, rfl, hS, hW, hT, q⟩
  refine nx e1 ⟨_, rfl, rfl, _, rfl, ?_⟩
  by_cases e2 : j = 11
  · subst e2
    exact ys rfl ⟨_, rfl, a, z, sh, [], rfl, rfl, hS, hW, hT, q⟩
  refine nx e2 ?_
  have e3 : j = 12 := by omega
  subst e3
  exact ⟨_, rfl, a, z, sh, [], rfl, rfl, hS, hW, hT, q⟩
theorem scAsk1 : FnScope ["ship", "call", "number"] ["ship", "call", "number"] (defScope sAsk1) := ⟨rfl, rfl, rfl, by decide +kernel, rfl, by decide +kernel, by decide +kernel⟩
theorem ok_ask1 {Pt : Addr} {f : Addr} {fd : FuncData} {fa : Nat → Addr} {ds : Nat → FuncData} (F : Fun K "ask_of_one" "ask_of_one" sAsk1 f fd) (G : Cgs mg) (D1 : Df P w K mg base 16 "tell_would" ["ship", "p"] (spAsk C Pt 1 (mk1 .would)) (fa 0) (ds 0)) (D2 : Df P w K mg base 5 "tell_choices" ["ship", "p"] (spAsk C Pt 1 (mk1 .choices)) (fa 1) (ds 1))
    (D3 : Df P w K mg base 5 "tell_beside" ["ship", "k"] (spAsk C Pt 1 (mk1 .beside)) (fa 2) (ds 2)) (D4 : Df P w K mg base 5 "tell_who" ["ship", "k"] (spAsk C Pt 1 (mk1 .who)) (fa 3) (ds 3)) (D5 : Df P w K mg base 5 "tell_look" ["ship", "p"] (spAsk C Pt 1 (mk1 .look)) (fa 4) (ds 4)) (D6 : Df P w K mg base 5 "tell_see" ["ship", "k"] (spAsk C Pt 1 (mk1 .see)) (fa 5) (ds 5)) :
    FnOk P w K mg base CX0 17 f fd ["ship", "call", "number"] (spA1 C Pt) := by
  refine F.ok scAsk1 (fun vs H Q E h => ?_) (fun cdv A outer s H vs Q E hr h => ?_)
  · obtain ⟨a, z, s, j, n, rfl, _⟩ := h
    rfl
  obtain ⟨a, z, sh, j, n, rfl, hS, hW, hT, h1, h9, q⟩ := h
  obtain ⟨u13, m13, r13⟩ := G.c13
  obtain ⟨u14, m14, r14⟩ := G.c14
  obtain ⟨u15, m15, r15⟩ := G.c15
  obtain ⟨u16, m16, r16⟩ := G.c16
  obtain ⟨u17, m17, r17⟩ := G.c17
  have hr5 : Room 5 _ := hr.mono (by decide)
  refine ⟨_, pss_cons (ps_if (pt_cmpR op_eq (pv 1) (pe_glob rfl m13 r13) (nomark _)) (pss_one (ps_ret (pe_call D1.ok hr rfl D1.m D1.kp D1.b .nil pass0 (pa_cons (pv 0) (pa_cons (pv 2) pa_nil))))) pss_nil)
    (pss_cons (ps_if (pt_cmpR op_eq (pv 1) (pe_glob rfl m14 r14) (nomark _)) (pss_one (ps_ret (pe_call D2.ok hr5 rfl D2.m D2.kp D2.b .nil pass0 (pa_cons (pv 0) (pa_cons (pv 2) pa_nil))))) pss_nil)
    (pss_cons (ps_if (pt_cmpR op_eq (pv 1) (pe_glob rfl m15 r15) (nomark _)) (pss_one (ps_ret (pe_call D3.ok hr5 rfl D3.m D3.kp D3.b .nil pass0 (pa_cons (pv 0) (pa_cons (pv 2) pa_nil))))) pss_nil)
    (pss_cons (ps_if (pt_cmpR op_eq (pv 1) (pe_glob rfl m16 r16) (nomark _)) (pss_one (ps_ret (pe_call D4.ok hr5 rfl D4.m D4.kp D4.b .nil pass0 (pa_cons (pv 0) (pa_cons (pv 2) pa_nil))))) pss_nil)
    (pss_cons (ps_if (pt_cmpR op_eq (pv 1) (pe_glob rfl m17 r17) (nomark _)) (pss_one (ps_ret (pe_call D5.ok hr5 rfl D5.m D5.kp D5.b .nil pass0 (pa_cons (pv 0) (pa_cons (pv 2) pa_nil))))) pss_nil)
    (pss_one (ps_ret (pe_call D6.ok hr5 rfl D6.m D6.kp D6.b .nil pass0 (pa_cons (pv 0) (pa_cons (pv 2) pa_nil))))))))), ?_⟩
  have nx : ∀ {n : Nat} {X Y : Prop}, j ≠ n → Y → if decide (nV j = V.int (n : Int)) = true then X else Y := fun hjn y => no (by rw [nV_is]; exact decide_eq_false hjn) y
  have ys : ∀ {n : Nat} {X Y : Prop}, j = n → X → if decide (nV j = V.int (n : Int)) = true then X else Y := fun hjn y => yes (by rw [nV_is]; exact decide_eq_true hjn) y
  refine ⟨_, rfl, rfl, _, rfl, ?_⟩
  by_cases e1 : j = 13
  · subst e1
    exact ys rfl ⟨_, rfl, _, rfl, a, z, sh, [n], rfl, rfl, hS, hW, hT, q⟩
  refine nx e1 ⟨_, rfl, rfl, _, rfl, ?_⟩
  by_cases e2 : j = 14
  · subst e2
    exact ys rfl ⟨_, rfl, _, rfl, a, z, sh, [n], rfl, rfl, hS, hW, hT, q⟩
  refine nx e2 ⟨_, rfl, rfl, _, rfl, ?_⟩
  by_cases e3 : j = 15
  · subst e3
    exact ys rfl ⟨_, rfl, _, rfl, a, z, sh, [n], rfl, rfl, hS, hW, hT, q⟩
  refine nx e3 ⟨_, rfl, rfl, _, rfl, ?_⟩
  by_cases e4 : j = 16
  · subst e4
    exact ys rfl ⟨_, rfl, _, rfl, a, z, sh, [n], rfl, rfl, hS, hW, hT, q⟩
  refine nx e4 ⟨_, rfl, rfl, _, rfl, ?_⟩
  by_cases e5 : j = 17
  · subst e5
    exact ys rfl ⟨_, rfl, _, rfl, a, z, sh, [n], rfl, rfl, hS, hW, hT, q⟩
  refine nx e5 ?_
  have e6 : j = 18 := by omega
  subst e6
  exact ⟨_, rfl, _, rfl, a, z, sh, [n], rfl, rfl, hS, hW, hT, q⟩
theorem scAskA : FnScope ["ship", "call"] ["ship", "call"] (defScope sAskA) := ⟨rfl, rfl, rfl, by decide +kernel, rfl, by decide +kernel, by decide +kernel⟩
theorem ok_askA {Pt : Addr} {f : Addr} {fd : FuncData} {fa : Nat → Addr} {ds : Nat → FuncData} (F : Fun K "ask_of_all" "ask_of_all" sAskA f fd) (G : Cgs mg) (D1 : Df P w K mg base 5 "tell_frees" ["ship"] (spAsk C Pt 0 (mk0 .frees)) (fa 0) (ds 0)) (D2 : Df P w K mg base 5 "tell_better" ["ship"] (spAsk C Pt 0 (mk0 .better)) (fa 1) (ds 1))
    (D3 : Df P w K mg base 5 "tell_sums" ["ship"] (spAsk C Pt 0 (mk0 .sums)) (fa 2) (ds 2)) : FnOk P w K mg base CX0 6 f fd ["ship", "call"] (spAA C Pt) := by
  refine F.ok scAskA (fun vs H Q E h => ?_) (fun cdv A outer s H vs Q E hr h => ?_)
  · obtain ⟨a, z, s, j, rfl, _⟩ := h
    rfl
  obtain ⟨a, z, sh, j, rfl, hS, hW, hT, h1, h9, q⟩ := h
  obtain ⟨u19, m19, r19⟩ := G.c19
  obtain ⟨u20, m20, r20⟩ := G.c20
  refine ⟨_, pss_cons (ps_if (pt_cmpR op_eq (pv 1) (pe_glob rfl m19 r19) (nomark _)) (pss_one (ps_ret (pe_call D1.ok hr rfl D1.m D1.kp D1.b .nil pass0 (pa_cons (pv 0) pa_nil)))) pss_nil)
    (pss_cons (ps_if (pt_cmpR op_eq (pv 1) (pe_glob rfl m20 r20) (nomark _)) (pss_one (ps_ret (pe_call D2.ok hr rfl D2.m D2.kp D2.b .nil pass0 (pa_cons (pv 0) pa_nil)))) pss_nil)
    (pss_one (ps_ret (pe_call D3.ok hr rfl D3.m D3.kp D3.b .nil pass0 (pa_cons (pv 0) pa_nil))))), ?_⟩
  have nx : ∀ {n : Nat} {X Y : Prop}, j ≠ n → Y → if decide (nV j = V.int (n : Int)) = true then X else Y := fun hjn y => no (by rw [nV_is]; exact decide_eq_false hjn) y
  have ys : ∀ {n : Nat} {X Y : Prop}, j = n → X → if decide (nV j = V.int (n : Int)) = true then X else Y := fun hjn y => yes (by rw [nV_is]; exact decide_eq_true hjn) y
  refine ⟨_, rfl, rfl, _, rfl, ?_⟩
  by_cases e1 : j = 19
  · subst e1
    exact ys rfl ⟨_, rfl, a, z, sh, [], rfl, rfl, hS, hW, hT, q⟩
  refine nx e1 ⟨_, rfl, rfl, _, rfl, ?_⟩
  by_cases e2 : j = 20
  · subst e2
    exact ys rfl ⟨_, rfl, a, z, sh, [], rfl, rfl, hS, hW, hT, q⟩
  refine nx e2 ?_
  have e3 : j = 21 := by omega
  subst e3
  exact ⟨_, rfl, a, z, sh, [], rfl, rfl, hS, hW, hT, q⟩
theorem scByBook : FnScope ["book", "call"] ["book", "call"] (defScope sByBook) := ⟨rfl, rfl, rfl, by decide +kernel, rfl, by decide +kernel, by decide +kernel⟩
/-- a list of one number, laid behind a change of the book -/
theorem one_fin {Pt b : Addr} {k k' : Bk} {d : Desk} {H H' : Hp} {Q : VK} {v : Int} (q : ∀ (H' : Hp) (k' : Bk) (r : Addr), BookAt C B t H' b k' d → FrB b k k' H H' → Tab Pt H' → H r = none → H' r = some (.lst [V.int v]) → Q (.ref r) H') (hB : BookAt C B t H' b k' d) (fr : FrB b k k' H H') (hl : ∀ x, H' x = none → H x = none) (hT : Tab Pt H') :
    [V.int v].length ≤ sizeLine ∧ ∀ r, H' r = none → Q (.ref r) (upd H' r (.lst [V.int v])) := by
  refine ⟨by show 1 ≤ sizeLine; decide, fun r hr => ?_⟩
  have s := same_new hr (.lst [V.int v])
  exact q _ k' r (hB.same s) ⟨fun x o e n n1 n2 n3 => s _ _ (fr.keep x o e n n1 n2 n3), fr.le, fr.ll⟩ (hT.same s) (hl r hr) upd_same
theorem ok_byBook {Pt : Addr} {f fS gB gA : Addr} {fd dS eB eA : FuncData} (F : Fun K "answer_by_book" "answer_by_book" sByBook f fd) (TB : TxtB K B) (G : Cgs mg) (MB : Mt P w K mg base B 1 "take_back" ["self"] (spBk C B t .back) gB eB) (MA : Mt P w K mg base B 1 "do_again" ["self"] (spBk C B t .again) gA eA)
    (DS : Df P w K mg base 1 "tell_state" ["book"] (spState C B t Pt) fS dS) : FnOk P w K mg base CX0 2 f fd ["book", "call"] (spBB C B t Pt) := by
  refine F.ok scByBook (fun vs H Q E h => ?_) (fun cdv A outer s H vs Q E hr h => ?_)
  · obtain ⟨b, k, d, j, rfl, _⟩ := h
    rfl
  obtain ⟨b, k, d, j, rfl, hB, hT, h1, h9, q⟩ := h
  obtain ⟨u22, m22, r22⟩ := G.c22
  obtain ⟨u23, m23, r23⟩ := G.c23
  refine ⟨_, pss_cons (ps_if (pt_cmpR op_eq (pv 1) (pe_glob rfl m22 r22) (nomark _)) (pss_one (ps_ret (pe_lst (pa_cons (pe_meth0 (pv 0) TB.cB MB.mt MB.ok hr MB.b .nil pass0) pa_nil)))) pss_nil)
    (pss_cons (ps_if (pt_cmpR op_eq (pv 1) (pe_glob rfl m23 r23) (nomark _)) (pss_one (ps_ret (pe_lst (pa_cons (pe_meth0 (pv 0) TB.cB MA.mt MA.ok hr MA.b .nil pass0) pa_nil)))) pss_nil)
    (pss_one (ps_ret (pe_call DS.ok hr rfl DS.m DS.kp DS.b .nil pass0 (pa_cons (pv 0) pa_nil))))), ?_⟩
  have nx : ∀ {n : Nat} {X Y : Prop}, j ≠ n → Y → if decide (nV j = V.int (n : Int)) = true then X else Y := fun hjn y => no (by rw [nV_is]; exact decide_eq_false hjn) y
  have ys : ∀ {n : Nat} {X Y : Prop}, j = n → X → if decide (nV j = V.int (n : Int)) = true then X else Y := fun hjn y => yes (by rw [nV_is]; exact decide_eq_true hjn) y
  refine ⟨_, rfl, rfl, _, rfl, ?_⟩
  by_cases e1 : j = 22
  · subst e1
    refine ys rfl ⟨_, rfl, b, k.dx, _, rfl, hB.book, book_no (by decide) (by decide) (by decide), b, k, d, rfl, hB, fun H' k' hB' fs => ?_⟩
    have e : told (act d (mkOf 22 [])).2 = [(act d .back).2.value] := by
      show told (act d .back).2 = _
      unfold act
      dsimp only
      cases d.past <;> rfl
    rw [e] at q
    exact one_fin q hB' fs.b fs.live (fs.tab hB hT)
  refine nx e1 ⟨_, rfl, rfl, _, rfl, ?_⟩
  by_cases e2 : j = 23
  · subst e2
    refine ys rfl ⟨_, rfl, b, k.dx, _, rfl, hB.book, book_no (by decide) (by decide) (by decide), b, k, d, rfl, hB, fun H' k' hB' fs => ?_⟩
    have e : told (act d (mkOf 23 [])).2 = [(act d .again).2.value] := by
      show told (act d .again).2 = _
      unfold act
      dsimp only
      cases d.future <;> rfl
    rw [e] at q
    exact one_fin q hB' fs.b fs.live (fs.tab hB hT)
  refine nx e2 ?_
  have e3 : j = 24 := by omega
  subst e3
  refine ⟨_, rfl, b, k, d, rfl, hB, hT, fun H' r nr sT hT' hr' => ?_⟩
  have kt : ∀ x o, H x = some o → (∀ ps, o ≠ .tbl ps) → H' x = some o := fun x o e n => sT x o (hT.ne e n) e
  exact q H' k r (hB.keep kt) (FrB.same kt) hT' nr hr'
theorem scACall : FnScope ["book", "call", "given"] ["book", "call", "given"] (defScope sACall) := ⟨rfl, rfl, rfl, by decide +kernel, rfl, by decide +kernel, by decide +kernel⟩
theorem ok_aCall {Pt : Addr} {f gN : Addr} {fd eN : FuncData} {fa : Nat → Addr} {ds : Nat → FuncData} (F : Fun K "answer_call" "answer_call" sACall f fd) (TB : TxtB K B) (G : Cgs mg) (MN : Mt P w K mg base B 3 "start_anew" ["self"] (spAnew C B t) gN eN) (D1 : Df P w K mg base 20 "answer_change" ["book", "call", "given"] (spAC C B t Pt) (fa 0) (ds 0))
    (D2 : Df P w K mg base 19 "ask_of_housing" ["ship", "call", "given"] (spAH C Pt) (fa 1) (ds 1)) (D3 : Df P w K mg base 17 "ask_of_one" ["ship", "call", "number"] (spA1 C Pt) (fa 2) (ds 2)) (D4 : Df P w K mg base 6 "ask_of_all" ["ship", "call"] (spAA C Pt) (fa 3) (ds 3)) (D5 : Df P w K mg base 2 "answer_by_book" ["book", "call"] (spBB C B t Pt) (fa 4) (ds 4)) :
    FnOk P w K mg base CX0 21 f fd ["book", "call", "given"] (spAns C B t Pt) := by
  refine F.ok scACall (fun vs H Q E h => ?_) (fun cdv A outer s H vs Q E hr h => ?_)
  · obtain ⟨b, g, k, d, j, ns, rfl, _⟩ := h
    rfl
  obtain ⟨b, g, k, d, j, ns, rfl, hB, hT, hg, hn, h25, q⟩ := h
  obtain ⟨u0, m0, r0⟩ := G.c0
  obtain ⟨u9, m9, r9⟩ := G.c9
  obtain ⟨u12, m12, r12⟩ := G.c12
  obtain ⟨u18, m18, r18⟩ := G.c18
  obtain ⟨u21, m21, r21⟩ := G.c21
  refine ⟨_, pss_cons (ps_if (pt_cmpR op_eq (pv 1) (pe_glob rfl m0 r0) (nomark _)) (pss_cons (ps_expr (pe_meth0 (pv 0) TB.cB MN.mt MN.ok (hr.mono (by decide)) MN.b .nil pass0)) (pss_one (ps_ret (pe_lst (pa_cons pe_int pa_nil))))) pss_nil)
    (pss_cons (ps_if (pt_cmpR op_le (pv 1) (pe_glob rfl m9 r9) (nomark _)) (pss_one (ps_ret (pe_lst (pa_cons (pe_call D1.ok hr rfl D1.m D1.kp D1.b .nil pass0 (pa_cons (pv 0) (pa_cons (pv 1) (pa_cons (pv 2) pa_nil)))) pa_nil)))) pss_nil)
    (pss_cons (ps_if (pt_cmpR op_le (pv 1) (pe_glob rfl m12 r12) (nomark _)) (pss_one (ps_ret (pe_call D2.ok (hr.mono (by decide)) rfl D2.m D2.kp D2.b .nil pass0 (pa_cons (pe_fld (pv 0) rfl) (pa_cons (pv 1) (pa_cons (pv 2) pa_nil)))))) pss_nil)
    (pss_cons (ps_if (pt_cmpR op_le (pv 1) (pe_glob rfl m18 r18) (nomark _)) (pss_one (ps_ret (pe_call D3.ok (hr.mono (by decide)) rfl D3.m D3.kp D3.b .nil pass0 (pa_cons (pe_fld (pv 0) rfl) (pa_cons (pv 1) (pa_cons (pe_ix ix_list (pv 2) pe_int (fun _ _ => rfl)) pa_nil)))))) pss_nil)
    (pss_cons (ps_if (pt_cmpR op_le (pv 1) (pe_glob rfl m21 r21) (nomark _)) (pss_one (ps_ret (pe_call D4.ok (hr.mono (by decide)) rfl D4.m D4.kp D4.b .nil pass0 (pa_cons (pe_fld (pv 0) rfl) (pa_cons (pv 1) pa_nil))))) pss_nil)
    (pss_one (ps_ret (pe_call D5.ok (hr.mono (by decide)) rfl D5.m D5.kp D5.b .nil pass0 (pa_cons (pv 0) (pa_cons (pv 1) pa_nil))))))))), ?_⟩
  have lx : ∀ {n : Nat} {X Y : Prop}, ¬ j ≤ n → Y → if decide ((j : Int) ≤ (n : Int)) = true then X else Y := fun hjn y => no (decide_eq_false (by omega)) y
  have ly : ∀ {n : Nat} {X Y : Prop}, j ≤ n → X → if decide ((j : Int) ≤ (n : Int)) = true then X else Y := fun hjn y => yes (decide_eq_true (by omega)) y
  obtain ⟨z, hS, hW, _, _, _⟩ := hB.now
  have qa : 10 ≤ j → j ≤ 21 → ∀ (H' : Hp) (r : Addr), H r = none → SameT Pt H H' → Tab Pt H' → H' r = some (.lst ((askL d.now (mkOf j ns)).map V.int)) → Q (.ref r) H' := fun h1 h2 H' r nr sT hT' hr' => by
    obtain ⟨e1, e2⟩ := ask_act d hn h1 h2
    have kt : ∀ x o, H x = some o → (∀ ps, o ≠ .tbl ps) → H' x = some o := fun x o e n => sT x o (hT.ne e n) e
    exact q H' k r (by rw [e1]; exact hB.keep kt) (FrB.same kt) hT' nr (by rw [e2]; exact hr')
  refine ⟨_, rfl, rfl, _, rfl, ?_⟩
  by_cases e0 : j = 0
  · subst e0
    refine yes rfl ?_
    obtain ⟨xs, ht⟩ := hB.tl
    refine ⟨_, rfl, b, k.dx, _, rfl, hB.book, book_no (by decide) (by decide) (by decide), b, k.dx, _, xs, rfl, hB.book, ht, .inr ⟨_, _, _, rfl⟩, fun H1 k1 hB1 kp n1 n2 => ?_⟩
    refine one_fin (v := 0) (d := Km437.fresh) (fun H' k' r hB' fr hT' nr hr' => q H' k' r hB' fr hT' nr hr') hB1 ⟨fun x o e _ n _ _ => kp x o e n, .inr (.inr n1), .inr (.inr n2)⟩ (fun x hx => ?_) (tab_keep hT fun x o e ho => kp x o e fun z => ?_)
    · cases e : H x with
      | none => rfl
      | some o =>
        by_cases hb : x = b
        · rw [hb, hB1.book] at hx
          cases hx
        · rw [kp x o e hb] at hx
          cases hx
    · rw [z, hB.book] at e
      have e := Option.some.inj e
      subst e
      rcases ho with ⟨_, ho⟩ | ⟨_, ho⟩ <;> cases ho
  refine no (by
    have := nV_is j 0
    rw [decide_eq_false e0] at this
    exact this) ⟨_, rfl, _, _, rfl, rfl, _, rfl, ?_⟩
  by_cases e1 : j ≤ 9
  · refine ly e1 ⟨_, rfl, _, rfl, _, rfl, b, g, k, d, j, ns, rfl, hB, hT, hg, hn, by omega, e1, fun H1 k1 hB1 fr hl hT1 => ?_⟩
    have hx := is_change hn (by omega) e1
    obtain ⟨⟨hd1, _⟩, _⟩ := act_did d (mkOf j ns) hx
    rw [told_value _ hd1] at q
    exact one_fin q hB1 fr hl hT1
  refine lx e1 ⟨_, rfl, _, _, rfl, rfl, _, rfl, ?_⟩
  by_cases e2 : j ≤ 12
  · exact ly e2 ⟨_, rfl, b, B, k.dx, _, _, rfl, hB.book, TB.cB, TB.b1, book_ship _ _ _, _, rfl, _, rfl, k.a, g, z, d.now, j, ns, rfl, hS, hW, hT, hg, hn, by omega, e2, qa (by omega) (by omega)⟩
  refine lx e2 ⟨_, rfl, _, _, rfl, rfl, _, rfl, ?_⟩
  by_cases e3 : j ≤ 18
  · have hn1 : ns.length = 1 := by
      rw [hn]
      have : j = 13 ∨ j = 14 ∨ j = 15 ∨ j = 16 ∨ j = 17 ∨ j = 18 := by omega
      rcases this with rfl | rfl | rfl | rfl | rfl | rfl <;> rfl
    have qa := qa (by omega) (by omega)
    obtain ⟨n, rfl⟩ := len1 hn1
    exact ly e3 ⟨_, rfl, b, B, k.dx, _, _, rfl, hB.book, TB.cB, TB.b1, book_ship _ _ _, _, rfl, _, rfl, g, _, _, _, rfl, rfl, SqL.of hg, atI_nat (j := 0) rfl, k.a, z, d.now, j, n, rfl, hS, hW, hT, by omega, e3, qa⟩
  have hn0 : ns.length = 0 := by
    rw [hn]
    have : j = 19 ∨ j = 20 ∨ j = 21 ∨ j = 22 ∨ j = 23 ∨ j = 24 := by omega
    rcases this with rfl | rfl | rfl | rfl | rfl | rfl <;> rfl
  have en := List.length_eq_zero_iff.mp hn0
  refine lx e3 ⟨_, rfl, _, _, rfl, rfl, _, rfl, ?_⟩
  by_cases e4 : j ≤ 21
  · have qa := qa (by omega) e4
    subst en
    exact ly e4 ⟨_, rfl, b, B, k.dx, _, _, rfl, hB.book, TB.cB, TB.b1, book_ship _ _ _, _, rfl, k.a, z, d.now, j, rfl, hS, hW, hT, by omega, e4, qa⟩
  subst en
  exact lx e4 ⟨_, rfl, _, rfl, b, k, d, j, rfl, hB, hT, by omega, by omega, q⟩
end
end Cg

end
section
set_option Elab.async false
set_option linter.all false
set_option maxRecDepth 100000
set_option maxHeartbeats 4000000
namespace Cg
open PySem PySem.Spec PyProof.Rows L2
open Km437 (Cabin Party Ship Desk Call act)
open Km437Neutral (told callOf)
abbrev sAnswers : Stmt := top 88
theorem FnOk.ex {P : Program} {w : World} {K : PySem.W.Frag} {mg : Str → Option Value} {base : Heap} {k : Nat} {f : Addr} {fd : FuncData} {ps : List Str} {sp : Addr → Sp} (h : ∀ t, FnOk P w K mg base CX0 k f fd ps (sp t)) : FnOk P w K mg base CX0 k f fd ps (fun vs H Q E => ∃ t, sp t vs H Q E) :=
  ⟨fun vs H Q E ⟨t, z⟩ => (h t).len vs H Q E z, fun A outer s H args us vs Q E hr he hb hv ⟨t, z⟩ => (h t).run A outer s H args us vs Q E hr he hb hv z⟩
theorem asked_short {l : List Int} (h : PyKm437.answers_asked l = true) : (PyKm437.answers l).length ≤ 10000000 := by
  unfold PyKm437.answers_asked at h
  cases e : PyFlat.calls PyKm437.shape l.length l with
  | none =>
    rw [e] at h
    cases h
  | some cs =>
    rw [e] at h
    simp only [Bool.and_eq_true] at h
    obtain ⟨_, h5⟩ := h
    exact of_decide_eq_true h5
def nI (l : List Nat) : List Int := l.map fun n : Nat => (n : Int)
theorem call_mk {j : Nat} (hj : j < 25) : ∀ {ns : List Nat}, ns.length = width j → callOf [(j : Int) :: nI ns] = some (mkOf j ns) := by
  refine by25 (P := fun j => ∀ {ns : List Nat}, ns.length = width j → callOf [(j : Int) :: nI ns] = some (mkOf j ns)) ?_ ?_ ?_ ?_ ?_ ?_ ?_ ?_ ?_ ?_ ?_ ?_ ?_ ?_ ?_ ?_ ?_ ?_ ?_ ?_ ?_ ?_ ?_ ?_ ?_ hj
  all_goals (intro ns hn; first
    | (obtain rfl := List.length_eq_zero_iff.mp hn; rfl)
    | (obtain ⟨a1, rfl⟩ := len1 hn; rfl)
    | (obtain ⟨a1, a2, rfl⟩ := len2 hn; rfl)
    | (obtain ⟨a1, a2, a3, rfl⟩ := len3 hn; rfl)
    | (obtain ⟨a1, a2, a3, a4, a5, rfl⟩ := len5 hn; rfl))
def handed : List Nat := [0, 5, 3, 2, 1, 2, 2, 2, 0, 2, 2, 0, 0, 1, 1, 1, 1, 1, 1, 0, 0, 0, 0, 0, 0]
theorem handed_at : ∀ j : Fin 25, handed[j.1]? = some (width j.1) := by decide
/-- the list that was handed in, wherever it lies: it stands apart from what is written -/
def CallsAt (K : PySem.W.Frag) (H : Hp) (a : Addr) (xs : List V) (b D : Addr) (k : Bk) : Prop :=
  (∃ o, H a = some o ∧ (o = .lst xs ∨ ∃ ob, o = .frz ob (.lst xs)) ∧ a ≠ b ∧ a ≠ k.le ∧ a ≠ k.ll ∧ a ≠ D) ∨ ∀ H, SqL K H a xs
theorem CallsAt.sq {K : PySem.W.Frag} {H : Hp} {a : Addr} {xs : List V} {b D : Addr} {k : Bk} (h : CallsAt K H a xs b D k) : SqL K H a xs := by
  rcases h with ⟨o, e, ho, _⟩ | h
  · rcases ho with ho | ⟨ob, ho⟩
    · rw [ho] at e
      exact .inl (.inl e)
    · rw [ho] at e
      exact .inl (.inr ⟨ob, e⟩)
  · exact h H
theorem CallsAt.same {K : PySem.W.Frag} {H H' : Hp} {a : Addr} {xs : List V} {b D : Addr} {k : Bk} (h : CallsAt K H a xs b D k) (s : Same H H') : CallsAt K H' a xs b D k := by
  rcases h with ⟨o, e, ho, r⟩ | h
  · exact .inl ⟨o, s _ _ e, ho, r⟩
  · exact .inr h
theorem CallsAt.move {K : PySem.W.Frag} {H H' : Hp} {a : Addr} {xs : List V} {b D : Addr} {k k' : Bk} (h : CallsAt K H a xs b D k) (fr : FrB b k k' H H') : CallsAt K H' a xs b D k' := by
  rcases h with ⟨o, e, ho, n1, n2, n3, n4⟩ | h
  · have out : ∀ y, (y = k.le ∨ y = k.ll ∨ H y = none) → a ≠ y := fun y hy => by
      rcases hy with z | z | z
      · rw [z]; exact n2
      · rw [z]; exact n3
      · exact ne_of_none e z
    refine .inl ⟨o, fr.keep _ _ e (fun ps z => ?_) n1 n2 n3, ho, n1, out _ fr.le, out _ fr.ll, n4⟩
    rcases ho with ho | ⟨ob, ho⟩ <;> rw [ho] at z <;> cases z
  · exact .inr h
theorem CallsAt.setT {K : PySem.W.Frag} {H : Hp} {a : Addr} {xs : List V} {b D : Addr} {k : Bk} (h : CallsAt K H a xs b D k) (o' : HO) : CallsAt K (upd H D o') a xs b D k := by
  rcases h with ⟨o, e, ho, n1, n2, n3, n4⟩ | h
  · exact .inl ⟨o, by rw [upd_ne n4]; exact e, ho, n1, n2, n3, n4⟩
  · exact .inr h
theorem cut_mid (l : List Nat) (i n : Nat) (h : i + 1 + n ≤ l.length) : cutV (l.map nV) (some ((i : Int) + 1)) (some ((i : Int) + 1 + (n : Int))) = ((l.drop (i + 1)).take n).map nV := by
  have e1 : HT.sIx (l.map nV).length 0 (some ((i : Int) + 1)) = i + 1 := by
    have := HT.sIx_nat (l.map nV).length 0 (i + 1)
    rw [show (((i + 1 : Nat)) : Int) = (i : Int) + 1 by omega] at this
    rw [this, List.length_map]
    omega
  have e2 : HT.sIx (l.map nV).length (l.map nV).length (some ((i : Int) + 1 + (n : Int))) = i + 1 + n := by
    have := HT.sIx_nat (l.map nV).length (l.map nV).length (i + 1 + n)
    rw [show (((i + 1 + n : Nat)) : Int) = (i : Int) + 1 + (n : Int) by omega] at this
    rw [this, List.length_map]
    omega
  unfold cutV
  rw [e1, e2, List.map_take, List.map_drop, Nat.add_sub_cancel_left]
def spAnswers (K : PySem.W.Frag) (Pt : Addr) : Sp := fun vs H Q _ => ∃ (a : Addr) (ns : List Int), vs = [.ref a] ∧ SqL K H a (ns.map V.int) ∧ H Pt = some (.tbl #[]) ∧ PyKm437.answers_asked ns = true ∧ ns.length ≤ 8000 ∧ (∀ v, v ∈ ns → 0 ≤ v) ∧
  ∀ (H' : Hp) (p : Addr), H' p = some (.lst ((PyKm437.answers ns).map V.int)) → Q (.ref p) H'
section
variable {P : Program} {w : World} {K : PySem.W.Frag} {mg : Str → Option Value} {base : Heap} {C : Cl} {B : Addr}
theorem scAnswers : FnScope ["calls", "told", "book", "at", "call", "end", "answer"] ["calls"] (defScope sAnswers) := ⟨rfl, rfl, rfl, by decide +kernel, rfl, by decide +kernel, by decide +kernel⟩
theorem ok_answers {Pt : Addr} {f fI fA hA : Addr} {fd dI dA : FuncData} (F : Fun K "answers" "answers" sAnswers f fd) (Mk_ : Mk K B fI) (GI : ∀ t, FnOk P w K mg base CX0 4 fI dI ["self"] (spBInit C B t)) (bI : Binds K dI ["self"] []) (mB : mg "Book" = some (.ref B))
    (DA : ∀ t, Df P w K mg base 21 "answer_call" ["book", "call", "given"] (spAns C B t Pt) fA dA) (ml : mg "len" = none) (mH : mg "HANDED" = some (.ref hA)) (hH : ∀ H, SqT K H hA (handed.map nV)) : FnOk P w K mg base CX0 22 f fd ["calls"] (spAnswers K Pt) := by
  have GI := FnOk.ex GI
  have GA := FnOk.ex fun t => (DA t).ok
  refine F.ok scAnswers (fun vs H Q E h => ?_) (fun cdv A outer s H vs Q E hr h => ?_)
  · obtain ⟨a, ns, rfl, _⟩ := h
    rfl
  obtain ⟨a, ns, rfl, hC, hPt, hask, h8000, hpos, q⟩ := h
  obtain ⟨l, rfl⟩ : ∃ l : List Nat, ns = nI l := ⟨ns.map Int.toNat, by
    unfold nI
    rw [List.map_map]
    conv => lhs; rw [← List.map_id ns]
    refine List.map_congr_left fun v hv => ?_
    show v = ((v.toNat : Nat) : Int)
    have := hpos v hv
    omega⟩
  have ev : (nI l).map V.int = l.map nV := by
    unfold nI
    rw [List.map_map]
    rfl
  rw [ev] at hC
  have hlen : l.length ≤ 8000 := by
    unfold nI at h8000
    rw [List.length_map] at h8000
    exact h8000
  have hT : Tab Pt H := ⟨#[], hPt, .inl rfl⟩
  obtain ⟨cs, hrem, hcs, hans⟩ := asked_rem hask
  have hshort := asked_short hask
  refine ⟨_, pss_cons (ps_set (i := 1) scAnswers.nd rfl (Or.inl rfl) (pe_lst pa_nil)) (pss_cons (ps_set (i := 2) scAnswers.nd rfl (Or.inl rfl) (pe_make0 Mk_ GI (hr.mono (by decide)) rfl mB bI .nil pass0)) (pss_cons (ps_set (i := 3) scAnswers.nd rfl (Or.inl rfl) pe_int)
    (pss_cons (ps_while PassesOwn.never (pt_cmpR op_lt (pv 3) (pe_callB call_len_seq rfl ml PySem.boot_len (pa_cons (pv 0) pa_nil)) (nomark _))
      (pss_cons (ps_set (i := 4) scAnswers.nd rfl (Or.inl rfl) (pe_ix ix_list (pv 0) (pv 3) (fun _ _ => rfl)))
      (pss_cons (ps_set (i := 5) scAnswers.nd rfl (Or.inl rfl) (pe_op op_add (pe_op op_add (pv 3) pe_int) (pe_ix ix_tup (pe_glob (v := .ref hA) rfl mH rfl) (pv 4) (fun _ _ => rfl))))
      (pss_cons (ps_set (i := 6) scAnswers.nd rfl (Or.inl rfl) (pe_call GA hr rfl (DA 0).m (DA 0).kp (DA 0).b .nil pass0 (pa_cons (pv 2) (pa_cons (pv 4) (pa_cons (pe_slice sl_list (pv 0) (po_some (pe_op op_add (pv 3) pe_int)) (po_some (pv 5))) pa_nil)))))
      (pss_cons (ps_expr (pe_bm PySem.F.plainAttrs_list PySem.F.slot_list_append PySem.F.type_list_append mt_append (pv 1) (pa_cons (pe_callB call_len_seq rfl ml PySem.boot_len (pa_cons (pv 6) pa_nil)) pa_nil)))
      (pss_cons (ps_expr (pe_bm PySem.F.plainAttrs_list PySem.F.slot_list_extend PySem.F.type_list_extend mt_extend (pv 1) (pa_cons (pv 6) pa_nil)))
      (pss_one (ps_set (i := 3) scAnswers.nd rfl (Or.inl rfl) (pv 5)))))))))
    (pss_one (ps_ret (pv 1)))))), ?_⟩
  refine ⟨Nat.zero_le _, fun D nD => ?_⟩
  intro b db nb ndb neb
  have s1 : Same H (upd H D (.lst [])) := same_new nD _
  have nDb : D ≠ b := fun e => by rw [← e, upd_same] at nb; cases nb
  have nDdb : D ≠ db := fun e => by rw [← e, upd_same] at ndb; cases ndb
  have s2 : Same (upd H D (.lst [])) (upd (upd (upd H D (.lst [])) db (.own b)) b (.ins B db [])) := fun x o e => by rw [upd_ne (ne_of_none e nb), upd_ne (ne_of_none e ndb)]; exact e
  refine ⟨D, b, db, [], rfl, upd_same, s2 _ _ upd_same, fun H1 k hB1 kp n1 n2 => ⟨rfl, ?_⟩⟩
  have s3 : Same (upd H D (.lst [])) H1 := fun x o e => kp x o (s2 _ _ e) (ne_of_none e nb)
  have s13 : Same H H1 := s1.trans s3
  have hD1 : H1 D = some (.lst []) := s3 _ _ upd_same
  have hC1 : CallsAt K H1 a (l.map nV) b D k := by
    have nn : ∀ o, H a = some o → a ≠ b ∧ a ≠ k.le ∧ a ≠ k.ll ∧ a ≠ D := fun o e =>
      ⟨ne_of_none (s1 _ _ e) nb, ne_of_none (s2 _ _ (s1 _ _ e)) n1, ne_of_none (s2 _ _ (s1 _ _ e)) n2, ne_of_none e nD⟩
    rcases hC with (h | ⟨o, h⟩) | h
    · exact .inl ⟨_, s13 _ _ h, .inl rfl, nn _ h⟩
    · exact .inl ⟨_, s13 _ _ h, .inr ⟨o, rfl⟩, nn _ h⟩
    · exact .inr fun H => .inr h
  refine ⟨fun m σ H' => ∃ (i : Nat) (k : Bk) (S : Option Desk) (d : Desk) (cs : List (List (List Int))) (out : List Int) (v4 v5 v6 : Option V), m = l.length - i ∧ i ≤ l.length ∧ σ = [some (.ref a), some (.ref D), some (.ref b), some (nV i), v4, v5, v6] ∧ BookAt C B D H' b k d ∧ Tab Pt H' ∧ H' D = some (.lst (out.map V.int)) ∧
      (S = some d ∨ S = none) ∧ Rem S (nI (l.drop i)) cs ∧ PyKm437.answers (nI l) = out ++ outOf S cs ∧ CallsAt K H' a (l.map nV) b D k,
    ⟨_, 0, k, none, Km437.fresh, cs, [], none, none, none, rfl, Nat.zero_le _, rfl, hB1, hT.same s13, hD1, .inr rfl, hrem, hans, hC1⟩, ?_⟩
  rintro m σ H' ⟨i, k, S, d, cs, out, v4, v5, v6, rfl, hi, rfl, hB, hT, hD, hS, hrem, hans, hC⟩
  refine ⟨_, rfl, _, rfl, a, _, rfl, .inl hC.sq, _, _, rfl, rfl, _, rfl, ?_⟩
  rw [List.length_map]
  by_cases hlt : i < l.length
  · refine yes (decide_eq_true (by show ((i : Nat) : Int) < ((l.length : Nat) : Int); omega)) ?_
    have hdrop : l.drop i = l[i] :: l.drop (i + 1) := List.drop_eq_getElem_cons hlt
    have hli : l[i]? = some l[i] := List.getElem?_eq_getElem hlt
    generalize l[i] = j0 at hdrop hli
    rw [hdrop] at hrem
    have hrem : Rem S ((j0 : Int) :: nI (l.drop (i + 1))) cs := hrem
    obtain ⟨j, cs', x, hj, ej, hw, hx, hlc, hrem', hout⟩ := hrem.next hS
    have ej : j0 = j := by omega
    subst ej
    have hrl : (nI (l.drop (i + 1))).length = l.length - (i + 1) := by
      unfold nI
      rw [List.length_map, List.length_drop]
    rw [hrl] at hw
    have hnl : ((l.drop (i + 1)).take (width j0)).length = width j0 := by
      rw [List.length_take, List.length_drop]
      omega
    have etake : (nI (l.drop (i + 1))).take (width j0) = nI ((l.drop (i + 1)).take (width j0)) := by
      unfold nI
      rw [List.map_take]
    have edrop : (nI (l.drop (i + 1))).drop (width j0) = nI (l.drop (i + 1 + width j0)) := by
      unfold nI
      rw [← List.map_drop, List.drop_drop]
    rw [etake, call_mk hj hnl] at hx
    have hx := Option.some.inj hx
    subst hx
    rw [edrop] at hrem'
    refine ⟨fun σ' H' => ∃ (k : Bk) (S : Option Desk) (d : Desk) (cs : List (List (List Int))) (out : List Int) (v4 v5 v6 : Option V), σ' = [some (.ref a), some (.ref D), some (.ref b), some (nV (i + 1 + width j0)), v4, v5, v6] ∧ BookAt C B D H' b k d ∧ Tab Pt H' ∧ H' D = some (.lst (out.map V.int)) ∧
        (S = some d ∨ S = none) ∧ Rem S (nI (l.drop (i + 1 + width j0))) cs ∧ PyKm437.answers (nI l) = out ++ outOf S cs ∧ CallsAt K H' a (l.map nV) b D k,
      fun σ' H' ⟨k, S, d, cs, out, v4, v5, v6, h⟩ => ⟨l.length - (i + 1 + width j0), by omega, i + 1 + width j0, k, S, d, cs, out, v4, v5, v6, rfl, by omega, h⟩, ?_⟩
    refine ⟨_, rfl, _, rfl, a, _, _, _, rfl, rfl, hC.sq, atI_nat (by rw [List.getElem?_map, hli]; rfl), ?_⟩
    refine ⟨_, rfl, _, _, rfl, rfl, _, rfl, hA, _, _, _, rfl, rfl, hH _, atI_nat (v := nV (width j0)) (by rw [List.getElem?_map, handed_at ⟨j0, hj⟩]; rfl), _, _, rfl, rfl, ?_⟩
    refine ⟨_, rfl, _, rfl, _, rfl, _, rfl, _, _, rfl, rfl, _, rfl, _, rfl, _, rfl, a, _, rfl, hC.sq, fun g ng => ?_⟩
    rw [cut_mid l i (width j0) (by omega)]
    have sg : Same H' (upd H' g (.lst (((l.drop (i + 1)).take (width j0)).map nV))) := same_new ng _
    refine ⟨D, b, g, k, d, j0, _, rfl, hB.same sg, hT.same sg, upd_same, hnl, hj, fun H2 k2 r hB2 fr hT2 nr hr2 => ?_⟩
    have nrD : r ≠ D := Ne.symm (ne_of_none (sg _ _ hD) nr)
    have hD2 : H2 D = some (.lst (out.map V.int)) := fr.keep _ _ (sg _ _ hD) (by intro _ e; cases e) (ne_of hD hB.book (by intro e; cases e)) hB.te hB.tL
    have hC2 := (hC.same sg).move fr
    have hlo : out.length + (1 + ((told (act d (mkOf j0 ((l.drop (i + 1)).take (width j0)))).2).length + (outOf (some (act d (mkOf j0 ((l.drop (i + 1)).take (width j0)))).1) cs').length)) ≤ 10000000 := by
      rw [hans, hout, List.length_append, List.length_cons, List.length_append] at hshort
      omega
    rw [hout] at hans
    generalize told (act d (mkOf j0 ((l.drop (i + 1)).take (width j0)))).2 = ans at hr2 hlo hans hout
    have hsz : sizeLine = 16777216 := sizeLine_eq
    refine ⟨_, rfl, .inl ⟨rfl, _, SqL.of hD2⟩, _, rfl, r, _, rfl, .inl (SqL.of hr2), D, _, _, rfl, rfl, hD2, by rw [List.length_map]; omega, ?_⟩
    have hB3 := hB2.setT (out.map V.int ++ [V.int (((ans.map V.int).length : Nat) : Int)])
    have hT3 : Tab Pt (upd H2 D (.lst (out.map V.int ++ [V.int (((ans.map V.int).length : Nat) : Int)]))) := tab_keep hT2 fun x o e ho => by
      rw [upd_ne (ne_of e hD2 (fun z => by rcases ho with ⟨_, ho⟩ | ⟨_, ho⟩ <;> rw [ho] at z <;> cases z))]
      exact e
    have hC3 := hC2.setT (.lst (out.map V.int ++ [V.int (((ans.map V.int).length : Nat) : Int)]))
    have hr3 : (upd H2 D (.lst (out.map V.int ++ [V.int (((ans.map V.int).length : Nat) : Int)]))) r = some (.lst (ans.map V.int)) := by rw [upd_ne nrD]; exact hr2
    have hD3 : (upd H2 D (.lst (out.map V.int ++ [V.int (((ans.map V.int).length : Nat) : Int)]))) D = some (.lst (out.map V.int ++ [V.int (((ans.map V.int).length : Nat) : Int)])) := upd_same
    generalize upd H2 D (.lst (out.map V.int ++ [V.int (((ans.map V.int).length : Nat) : Int)])) = H3 at hB3 hT3 hC3 hr3 hD3
    refine ⟨_, rfl, .inl ⟨rfl, _, SqL.of hD3⟩, _, rfl, D, r, _, _, rfl, rfl, hD3, hr3, ?_, ?_⟩
    · rw [List.length_append, List.length_map, List.length_singleton, List.length_map]
      omega
    have hB4 := hB3.setT (out.map V.int ++ [V.int (((ans.map V.int).length : Nat) : Int)] ++ ans.map V.int)
    have hT4 : Tab Pt (upd H3 D (.lst (out.map V.int ++ [V.int (((ans.map V.int).length : Nat) : Int)] ++ ans.map V.int))) := tab_keep hT3 fun x o e ho => by
      rw [upd_ne (ne_of e hD3 (fun z => by rcases ho with ⟨_, ho⟩ | ⟨_, ho⟩ <;> rw [ho] at z <;> cases z))]
      exact e
    have hC4 := hC3.setT (.lst (out.map V.int ++ [V.int (((ans.map V.int).length : Nat) : Int)] ++ ans.map V.int))
    refine ⟨_, rfl, k2, _, _, cs', out ++ ((ans.length : Int) :: ans), some (nV j0), some (V.int ((i : Int) + 1 + ((width j0 : Nat) : Int))), some (.ref r), ?_, hB4, hT4, ?_, .inl rfl, hrem', ?_, hC4⟩
    · show _ = [some (.ref a), some (.ref D), some (.ref b), some (V.int (((i + 1 + width j0 : Nat)) : Int)), _, _, _]
      rw [show (((i + 1 + width j0 : Nat)) : Int) = (i : Int) + 1 + ((width j0 : Nat) : Int) by omega]
      rfl
    · rw [upd_same, List.map_append, List.map_cons, List.length_map, List.append_assoc]
      rfl
    · rw [hans, List.append_assoc]
      rfl
  · refine no (decide_eq_false (by show ¬ ((i : Nat) : Int) < ((l.length : Nat) : Int); omega)) ⟨_, rfl, q H' D ?_⟩
    have ei : i = l.length := by omega
    rw [ei, List.drop_length] at hrem
    have hn := Rem.nil hrem
    rw [hn] at hans
    have hans : PyKm437.answers (nI l) = out ++ [] := hans
    rw [List.append_nil] at hans
    rw [hans]
    exact hD
end
end Cg

end
section
set_option Elab.async false
set_option linter.all false
set_option maxRecDepth 100000
set_option maxHeartbeats 4000000
namespace Cg
open PySem PySem.Spec PyProof.Rows L2
open Km437 (Cabin Party Ship Desk Call act)
def HasDef (K : PySem.W.Frag) (x : Str) (st : Stmt) : Prop := ∃ (f : Addr) (fd : FuncData), PySem.W.nsIn K mainGlobals x = some (some (.ref f)) ∧ Fun K x x st f fd
def HasMeth (K : PySem.W.Frag) (C : Addr) (m qual : Str) (st : Stmt) : Prop := ∃ (f : Addr) (fd : FuncData), Meth K C m f ∧ Fun K m qual st f fd
def HasCn (K : PySem.W.Frag) (x : Str) (n : Int) : Prop := ∃ t : Tok, PySem.W.nsIn K mainGlobals x = some (some (.int n t))
theorem HasCn.of {K : PySem.W.Frag} {x : Str} {n : Int} {t : Tok} (a : PySem.W.nsIn K mainGlobals x = some (some (.int n t))) : HasCn K x n := ⟨t, a⟩
structure HasCls (K : PySem.W.Frag) (x : Str) (C : Addr) : Prop where
  ns : PySem.W.nsIn K mainGlobals x = some (some (.ref C))
  pg : PySem.W.plainGet K C Str.empty = true
  hd : PySem.W.hasDictIn K C = true
  po : PySem.W.plainOver K C = true
  sa : PySem.W.findIn K (.ref C) "__setattr__" = some (some (.builtin "object.__setattr__"))
  mks : PySem.W.makesIn K C = true
  kc : PySem.W.keepIn K (.ref C) = true
theorem HasCls.cls {K : PySem.W.Frag} {x : Str} {C : Addr} (h : HasCls K x C) : Cls K C := ⟨h.pg, h.hd, h.po, h.sa⟩
theorem HasCls.toMk {K : PySem.W.Frag} {x : Str} {C f : Addr} (h : HasCls K x C) (m : Meth K C "__init__" f) : Mk K C f := ⟨h.mks, m.at_, m.fn, h.kc⟩
def HasHanded (K : PySem.W.Frag) : Prop := ∃ (hA : Addr) (o : Obj) (its : Array Value) (n : Nat), PySem.W.nsIn K mainGlobals "HANDED" = some (some (.ref hA)) ∧ K.lookup hA = some o ∧ o.cls = .type "tuple" ∧ o.data = .seq its n ∧ its.size ≤ sizeLine ∧ Vals (handed.map nV) its.toList
theorem HasHanded.of {K : PySem.W.Frag} {hA : Addr} {o : Obj} {its : Array Value} {n : Nat} (a : PySem.W.nsIn K mainGlobals "HANDED" = some (some (.ref hA))) (l : K.lookup hA = some o) (c : o.cls = .type "tuple") (d : o.data = .seq its n) (s : its.size ≤ sizeLine) (v : Vals (handed.map nV) its.toList) : HasHanded K := ⟨hA, o, its, n, a, l, c, d, s, v⟩
/-- what the text's top has written -/
structure AllIn (K : PySem.W.Frag) (C P S B : Addr) : Prop where
  kCabin : HasCls K "Cabin" C
  kParty : HasCls K "Party" P
  kShip : HasCls K "Ship" S
  kBook : HasCls K "Book" B
  nCabin_deck : NoAttr K C "deck"
  nCabin_place : NoAttr K C "place"
  nCabin_rank : NoAttr K C "rank"
  nCabin_berths : NoAttr K C "berths"
  nCabin_flat : NoAttr K C "flat"
  nCabin_out : NoAttr K C "out"
  nParty_many : NoAttr K P "many"
  nParty_rank : NoAttr K P "rank"
  nParty_flat : NoAttr K P "flat"
  nParty_cabin : NoAttr K P "cabin"
  nParty_gone : NoAttr K P "gone"
  nShip_cabins : NoAttr K S "cabins"
  nShip_parties : NoAttr K S "parties"
  nBook_ship : NoAttr K B "ship"
  nBook_earlier : NoAttr K B "earlier"
  nBook_later : NoAttr K B "later"
  d_copy_of_cabin : HasDef K "copy_of_cabin" sCopyC
  d_copy_of_party : HasDef K "copy_of_party" sCopyP
  d_copy_of_ship : HasDef K "copy_of_ship" sCopyS
  d_most_housed : HasDef K "most_housed" sMost
  d_find_cabin : HasDef K "find_cabin" sFind
  d_others : HasDef K "others" sOthers
  d_without_cabin : HasDef K "without_cabin" sWithout
  d_best_cabin : HasDef K "best_cabin" sBest
  d_planned_cabins : HasDef K "planned_cabins" sPlanned
  d_wish_of : HasDef K "wish_of" sWishOf
  d_wishes_of : HasDef K "wishes_of" sWW
  d_most_of : HasDef K "most_of" sMostOf
  d_plan_of : HasDef K "plan_of" sPlanOf
  d_add_cabin : HasDef K "add_cabin" sAddC
  d_add_party : HasDef K "add_party" sAddP
  d_give_cabin : HasDef K "give_cabin" sGive
  d_leave_ship : HasDef K "leave_ship" sLeave
  d_shut_cabin : HasDef K "shut_cabin" sShut
  d_move_party : HasDef K "move_party" sMove
  d_swap_parties : HasDef K "swap_parties" sSwap
  d_take_plan : HasDef K "take_plan" sTake
  d_pay_class : HasDef K "pay_class" sPay
  d_bits_of : HasDef K "bits_of" sBits
  d_told_cabin : HasDef K "told_cabin" sTold
  d_tell_does : HasDef K "tell_does" sTDoes
  d_tell_most : HasDef K "tell_most" sTMost
  d_tell_plan : HasDef K "tell_plan" sTPlan
  d_tell_would : HasDef K "tell_would" sWould
  d_tell_choices : HasDef K "tell_choices" sChoices
  d_tell_beside : HasDef K "tell_beside" sTBeside
  d_tell_who : HasDef K "tell_who" sWho
  d_tell_look : HasDef K "tell_look" sLook
  d_tell_see : HasDef K "tell_see" sSee
  d_tell_frees : HasDef K "tell_frees" sTFrees
  d_tell_better : HasDef K "tell_better" sTBetter
  d_tell_sums : HasDef K "tell_sums" sSums
  d_tell_state : HasDef K "tell_state" sState
  d_answers : HasDef K "answers" sAnswers
  d_answer_call : HasDef K "answer_call" sACall
  d_answer_change : HasDef K "answer_change" sAChange
  d_change_ship : HasDef K "change_ship" sCShip
  d_ask_of_housing : HasDef K "ask_of_housing" sAskH
  d_ask_of_one : HasDef K "ask_of_one" sAsk1
  d_ask_of_all : HasDef K "ask_of_all" sAskA
  d_answer_by_book : HasDef K "answer_by_book" sByBook
  m_cInit : HasMeth K C "__init__" "Cabin.__init__" sCInit
  m_pInit : HasMeth K P "__init__" "Party.__init__" sPInit
  m_sInit : HasMeth K S "__init__" "Ship.__init__" sSInit
  m_has_cabin : HasMeth K S "has_cabin" "Ship.has_cabin" sHasC
  m_has_party : HasMeth K S "has_party" "Ship.has_party" sHasP
  m_is_at : HasMeth K S "is_at" "Ship.is_at" sIsAt
  m_is_beside : HasMeth K S "is_beside" "Ship.is_beside" sBeside
  m_holder_of : HasMeth K S "holder_of" "Ship.holder_of" sHolder
  m_is_free : HasMeth K S "is_free" "Ship.is_free" sIsFree
  m_all_cabins : HasMeth K S "all_cabins" "Ship.all_cabins" sAllC
  m_free_among : HasMeth K S "free_among" "Ship.free_among" sFreeAm
  m_free_cabins : HasMeth K S "free_cabins" "Ship.free_cabins" sFrees
  m_waits : HasMeth K S "waits" "Ship.waits" sWaits
  m_waiting_parties : HasMeth K S "waiting_parties" "Ship.waiting_parties" sWaiting
  m_housed_parties : HasMeth K S "housed_parties" "Ship.housed_parties" sHoused
  m_is_better : HasMeth K S "is_better" "Ship.is_better" sBetter
  m_does : HasMeth K S "does" "Ship.does" sDoes
  m_bInit : HasMeth K B "__init__" "Book.__init__" sBInit
  m_start_anew : HasMeth K B "start_anew" "Book.start_anew" sAnew
  m_enter_change : HasMeth K B "enter_change" "Book.enter_change" sEnter
  m_take_back : HasMeth K B "take_back" "Book.take_back" sBack
  m_do_again : HasMeth K B "do_again" "Book.do_again" sAgain
  c_NOT_THERE : HasCn K "NOT_THERE" (-2)
  c_NOBODY : HasCn K "NOBODY" (-6)
  c_NOT_FREE : HasCn K "NOT_FREE" (-16)
  c_ALREADY_SO : HasCn K "ALREADY_SO" (-17)
  c_NOT_AS_TOLD : HasCn K "NOT_AS_TOLD" (-22)
  c_NO_MORE : HasCn K "NO_MORE" (-28)
  c_DOES_NOT_DO : HasCn K "DOES_NOT_DO" (-33)
  c_MOST_TAKEN_BACK : HasCn K "MOST_TAKEN_BACK" 30
  c_MOST_CABINS : HasCn K "MOST_CABINS" 12
  c_MOST_PARTIES : HasCn K "MOST_PARTIES" 8
  c_LAST_DECK : HasCn K "LAST_DECK" 20
  c_LAST_PLACE : HasCn K "LAST_PLACE" 500
  c_BEST_CLASS : HasCn K "BEST_CLASS" 3
  c_MOST_BERTHS : HasCn K "MOST_BERTHS" 6
  c_PLAN_LENGTH : HasCn K "PLAN_LENGTH" 8
  c_CG_START : HasCn K "CG_START" 0
  c_CG_CABIN : HasCn K "CG_CABIN" 1
  c_CG_PARTY : HasCn K "CG_PARTY" 2
  c_CG_GIVE : HasCn K "CG_GIVE" 3
  c_CG_LEAVE : HasCn K "CG_LEAVE" 4
  c_CG_SHUT : HasCn K "CG_SHUT" 5
  c_CG_MOVE : HasCn K "CG_MOVE" 6
  c_CG_SWAP : HasCn K "CG_SWAP" 7
  c_CG_TAKE : HasCn K "CG_TAKE" 8
  c_CG_PAY : HasCn K "CG_PAY" 9
  c_CG_DOES : HasCn K "CG_DOES" 10
  c_CG_MOST : HasCn K "CG_MOST" 11
  c_CG_PLAN : HasCn K "CG_PLAN" 12
  c_CG_WOULD : HasCn K "CG_WOULD" 13
  c_CG_CHOICES : HasCn K "CG_CHOICES" 14
  c_CG_BESIDE : HasCn K "CG_BESIDE" 15
  c_CG_WHO : HasCn K "CG_WHO" 16
  c_CG_LOOK : HasCn K "CG_LOOK" 17
  c_CG_SEE : HasCn K "CG_SEE" 18
  c_CG_FREES : HasCn K "CG_FREES" 19
  c_CG_BETTER : HasCn K "CG_BETTER" 20
  c_CG_SUMS : HasCn K "CG_SUMS" 21
  c_CG_BACK : HasCn K "CG_BACK" 22
  c_CG_AGAIN : HasCn K "CG_AGAIN" 23
  b_len : PySem.W.nsIn K mainGlobals "len" = some none
  b_range : PySem.W.nsIn K mainGlobals "range" = some none
  b_list : PySem.W.nsIn K mainGlobals "list" = some none
  b_abs : PySem.W.nsIn K mainGlobals "abs" = some none
  b_sum : PySem.W.nsIn K mainGlobals "sum" = some none
  b_sorted : PySem.W.nsIn K mainGlobals "sorted" = some none
  b_zip : PySem.W.nsIn K mainGlobals "zip" = some none
  handed : HasHanded K
theorem Mt.mono {P : Program} {w : World} {K : PySem.W.Frag} {mg : Str → Option Value} {base : Heap} {C : Addr} {j k : Nat} {m : Str} {ps : List Str} {sp : Sp} {f : Addr} {fd : FuncData} (h : Mt P w K mg base C j m ps sp f fd) (hj : j ≤ k) : Mt P w K mg base C k m ps sp f fd := ⟨h.ok.mono hj, h.mt, h.b⟩
theorem Df.mono {P : Program} {w : World} {K : PySem.W.Frag} {mg : Str → Option Value} {base : Heap} {j k : Nat} {x : Str} {ps : List Str} {sp : Sp} {f : Addr} {fd : FuncData} (h : Df P w K mg base j x ps sp f fd) (hj : j ≤ k) : Df P w K mg base k x ps sp f fd := ⟨h.ok.mono hj, h.kp, h.b, h.m⟩
theorem HasCn.cn {K : PySem.W.Frag} {h : Heap} {mg : Str → Option Value} {x : Str} {n : Int} (X : K.In h) (G : h.Ns mainGlobals mg) (c : HasCn K x n) : Cn mg x n := by
  obtain ⟨t, e⟩ := c
  exact ⟨_, PySem.W.mg_of X G e, t, rfl⟩
theorem all_ok {P : Program} {w : World} {K : PySem.W.Frag} {h : Heap} {mg : Str → Option Value} {fa cC cP cS cB f7 c7 Pt : Addr} {d7 : FuncData} {base : Heap} (X : K.In h) (G : h.Ns mainGlobals mg) (hfa : mg "answers" = some (.ref fa)) (A : AllIn K cC cP cS cB)
    (F7 : FunC K "frugal_order" "frugal_order" sFrugal f7 d7 c7 Pt) (m7 : mg "frugal_order" = some (.ref f7)) (bm : Bm base mg) : ∃ fd : FuncData, Fun K "answers" "answers" sAnswers fa fd ∧ FnOk P w K mg base CX0 22 fa fd ["calls"] (spAnswers K Pt) := by
  have b_len := PySem.W.mg_none_of X G A.b_len
  have b_range := PySem.W.mg_none_of X G A.b_range
  have b_list := PySem.W.mg_none_of X G A.b_list
  have b_abs := PySem.W.mg_none_of X G A.b_abs
  have b_sum := PySem.W.mg_none_of X G A.b_sum
  have b_sorted := PySem.W.mg_none_of X G A.b_sorted
  have b_zip := PySem.W.mg_none_of X G A.b_zip
  have c_NOT_THERE := A.c_NOT_THERE.cn X G
  have c_NOBODY := A.c_NOBODY.cn X G
  have c_NOT_FREE := A.c_NOT_FREE.cn X G
  have c_ALREADY_SO := A.c_ALREADY_SO.cn X G
  have c_NOT_AS_TOLD := A.c_NOT_AS_TOLD.cn X G
  have c_NO_MORE := A.c_NO_MORE.cn X G
  have c_DOES_NOT_DO := A.c_DOES_NOT_DO.cn X G
  have c_MOST_TAKEN_BACK := A.c_MOST_TAKEN_BACK.cn X G
  have c_MOST_CABINS := A.c_MOST_CABINS.cn X G
  have c_MOST_PARTIES := A.c_MOST_PARTIES.cn X G
  have c_LAST_DECK := A.c_LAST_DECK.cn X G
  have c_LAST_PLACE := A.c_LAST_PLACE.cn X G
  have c_BEST_CLASS := A.c_BEST_CLASS.cn X G
  have c_MOST_BERTHS := A.c_MOST_BERTHS.cn X G
  have c_PLAN_LENGTH := A.c_PLAN_LENGTH.cn X G
  have c_CG_START := A.c_CG_START.cn X G
  have c_CG_CABIN := A.c_CG_CABIN.cn X G
  have c_CG_PARTY := A.c_CG_PARTY.cn X G
  have c_CG_GIVE := A.c_CG_GIVE.cn X G
  have c_CG_LEAVE := A.c_CG_LEAVE.cn X G
  have c_CG_SHUT := A.c_CG_SHUT.cn X G
  have c_CG_MOVE := A.c_CG_MOVE.cn X G
  have c_CG_SWAP := A.c_CG_SWAP.cn X G
  have c_CG_TAKE := A.c_CG_TAKE.cn X G
  have c_CG_PAY := A.c_CG_PAY.cn X G
  have c_CG_DOES := A.c_CG_DOES.cn X G
  have c_CG_MOST := A.c_CG_MOST.cn X G
  have c_CG_PLAN := A.c_CG_PLAN.cn X G
  have c_CG_WOULD := A.c_CG_WOULD.cn X G
  have c_CG_CHOICES := A.c_CG_CHOICES.cn X G
  have c_CG_BESIDE := A.c_CG_BESIDE.cn X G
  have c_CG_WHO := A.c_CG_WHO.cn X G
  have c_CG_LOOK := A.c_CG_LOOK.cn X G
  have c_CG_SEE := A.c_CG_SEE.cn X G
  have c_CG_FREES := A.c_CG_FREES.cn X G
  have c_CG_BETTER := A.c_CG_BETTER.cn X G
  have c_CG_SUMS := A.c_CG_SUMS.cn X G
  have c_CG_BACK := A.c_CG_BACK.cn X G
  have c_CG_AGAIN := A.c_CG_AGAIN.cn X G
  obtain ⟨f_copy_of_cabin, d_copy_of_cabin, a_copy_of_cabin, F_copy_of_cabin⟩ := A.d_copy_of_cabin
  have g_copy_of_cabin := PySem.W.mg_of X G a_copy_of_cabin
  obtain ⟨f_copy_of_party, d_copy_of_party, a_copy_of_party, F_copy_of_party⟩ := A.d_copy_of_party
  have g_copy_of_party := PySem.W.mg_of X G a_copy_of_party
  obtain ⟨f_copy_of_ship, d_copy_of_ship, a_copy_of_ship, F_copy_of_ship⟩ := A.d_copy_of_ship
  have g_copy_of_ship := PySem.W.mg_of X G a_copy_of_ship
  obtain ⟨f_most_housed, d_most_housed, a_most_housed, F_most_housed⟩ := A.d_most_housed
  have g_most_housed := PySem.W.mg_of X G a_most_housed
  obtain ⟨f_find_cabin, d_find_cabin, a_find_cabin, F_find_cabin⟩ := A.d_find_cabin
  have g_find_cabin := PySem.W.mg_of X G a_find_cabin
  obtain ⟨f_others, d_others, a_others, F_others⟩ := A.d_others
  have g_others := PySem.W.mg_of X G a_others
  obtain ⟨f_without_cabin, d_without_cabin, a_without_cabin, F_without_cabin⟩ := A.d_without_cabin
  have g_without_cabin := PySem.W.mg_of X G a_without_cabin
  obtain ⟨f_best_cabin, d_best_cabin, a_best_cabin, F_best_cabin⟩ := A.d_best_cabin
  have g_best_cabin := PySem.W.mg_of X G a_best_cabin
  obtain ⟨f_planned_cabins, d_planned_cabins, a_planned_cabins, F_planned_cabins⟩ := A.d_planned_cabins
  have g_planned_cabins := PySem.W.mg_of X G a_planned_cabins
  obtain ⟨f_wish_of, d_wish_of, a_wish_of, F_wish_of⟩ := A.d_wish_of
  have g_wish_of := PySem.W.mg_of X G a_wish_of
  obtain ⟨f_wishes_of, d_wishes_of, a_wishes_of, F_wishes_of⟩ := A.d_wishes_of
  have g_wishes_of := PySem.W.mg_of X G a_wishes_of
  obtain ⟨f_most_of, d_most_of, a_most_of, F_most_of⟩ := A.d_most_of
  have g_most_of := PySem.W.mg_of X G a_most_of
  obtain ⟨f_plan_of, d_plan_of, a_plan_of, F_plan_of⟩ := A.d_plan_of
  have g_plan_of := PySem.W.mg_of X G a_plan_of
  obtain ⟨f_add_cabin, d_add_cabin, a_add_cabin, F_add_cabin⟩ := A.d_add_cabin
  have g_add_cabin := PySem.W.mg_of X G a_add_cabin
  obtain ⟨f_add_party, d_add_party, a_add_party, F_add_party⟩ := A.d_add_party
  have g_add_party := PySem.W.mg_of X G a_add_party
  obtain ⟨f_give_cabin, d_give_cabin, a_give_cabin, F_give_cabin⟩ := A.d_give_cabin
  have g_give_cabin := PySem.W.mg_of X G a_give_cabin
  obtain ⟨f_leave_ship, d_leave_ship, a_leave_ship, F_leave_ship⟩ := A.d_leave_ship
  have g_leave_ship := PySem.W.mg_of X G a_leave_ship
  obtain ⟨f_shut_cabin, d_shut_cabin, a_shut_cabin, F_shut_cabin⟩ := A.d_shut_cabin
  have g_shut_cabin := PySem.W.mg_of X G a_shut_cabin
  obtain ⟨f_move_party, d_move_party, a_move_party, F_move_party⟩ := A.d_move_party
  have g_move_party := PySem.W.mg_of X G a_move_party
  obtain ⟨f_swap_parties, d_swap_parties, a_swap_parties, F_swap_parties⟩ := A.d_swap_parties
  have g_swap_parties := PySem.W.mg_of X G a_swap_parties
  obtain ⟨f_take_plan, d_take_plan, a_take_plan, F_take_plan⟩ := A.d_take_plan
  have g_take_plan := PySem.W.mg_of X G a_take_plan
  obtain ⟨f_pay_class, d_pay_class, a_pay_class, F_pay_class⟩ := A.d_pay_class
  have g_pay_class := PySem.W.mg_of X G a_pay_class
  obtain ⟨f_bits_of, d_bits_of, a_bits_of, F_bits_of⟩ := A.d_bits_of
  have g_bits_of := PySem.W.mg_of X G a_bits_of
  obtain ⟨f_told_cabin, d_told_cabin, a_told_cabin, F_told_cabin⟩ := A.d_told_cabin
  have g_told_cabin := PySem.W.mg_of X G a_told_cabin
  obtain ⟨f_tell_does, d_tell_does, a_tell_does, F_tell_does⟩ := A.d_tell_does
  have g_tell_does := PySem.W.mg_of X G a_tell_does
  obtain ⟨f_tell_most, d_tell_most, a_tell_most, F_tell_most⟩ := A.d_tell_most
  have g_tell_most := PySem.W.mg_of X G a_tell_most
  obtain ⟨f_tell_plan, d_tell_plan, a_tell_plan, F_tell_plan⟩ := A.d_tell_plan
  have g_tell_plan := PySem.W.mg_of X G a_tell_plan
  obtain ⟨f_tell_would, d_tell_would, a_tell_would, F_tell_would⟩ := A.d_tell_would
  have g_tell_would := PySem.W.mg_of X G a_tell_would
  obtain ⟨f_tell_choices, d_tell_choices, a_tell_choices, F_tell_choices⟩ := A.d_tell_choices
  have g_tell_choices := PySem.W.mg_of X G a_tell_choices
  obtain ⟨f_tell_beside, d_tell_beside, a_tell_beside, F_tell_beside⟩ := A.d_tell_beside
  have g_tell_beside := PySem.W.mg_of X G a_tell_beside
  obtain ⟨f_tell_who, d_tell_who, a_tell_who, F_tell_who⟩ := A.d_tell_who
  have g_tell_who := PySem.W.mg_of X G a_tell_who
  obtain ⟨f_tell_look, d_tell_look, a_tell_look, F_tell_look⟩ := A.d_tell_look
  have g_tell_look := PySem.W.mg_of X G a_tell_look
  obtain ⟨f_tell_see, d_tell_see, a_tell_see, F_tell_see⟩ := A.d_tell_see
  have g_tell_see := PySem.W.mg_of X G a_tell_see
  obtain ⟨f_tell_frees, d_tell_frees, a_tell_frees, F_tell_frees⟩ := A.d_tell_frees
  have g_tell_frees := PySem.W.mg_of X G a_tell_frees
  obtain ⟨f_tell_better, d_tell_better, a_tell_better, F_tell_better⟩ := A.d_tell_better
  have g_tell_better := PySem.W.mg_of X G a_tell_better
  obtain ⟨f_tell_sums, d_tell_sums, a_tell_sums, F_tell_sums⟩ := A.d_tell_sums
  have g_tell_sums := PySem.W.mg_of X G a_tell_sums
  obtain ⟨f_tell_state, d_tell_state, a_tell_state, F_tell_state⟩ := A.d_tell_state
  have g_tell_state := PySem.W.mg_of X G a_tell_state
  obtain ⟨f_answers, d_answers, a_answers, F_answers⟩ := A.d_answers
  have g_answers := PySem.W.mg_of X G a_answers
  obtain ⟨f_answer_call, d_answer_call, a_answer_call, F_answer_call⟩ := A.d_answer_call
  have g_answer_call := PySem.W.mg_of X G a_answer_call
  obtain ⟨f_answer_change, d_answer_change, a_answer_change, F_answer_change⟩ := A.d_answer_change
  have g_answer_change := PySem.W.mg_of X G a_answer_change
  obtain ⟨f_change_ship, d_change_ship, a_change_ship, F_change_ship⟩ := A.d_change_ship
  have g_change_ship := PySem.W.mg_of X G a_change_ship
  obtain ⟨f_ask_of_housing, d_ask_of_housing, a_ask_of_housing, F_ask_of_housing⟩ := A.d_ask_of_housing
  have g_ask_of_housing := PySem.W.mg_of X G a_ask_of_housing
  obtain ⟨f_ask_of_one, d_ask_of_one, a_ask_of_one, F_ask_of_one⟩ := A.d_ask_of_one
  have g_ask_of_one := PySem.W.mg_of X G a_ask_of_one
  obtain ⟨f_ask_of_all, d_ask_of_all, a_ask_of_all, F_ask_of_all⟩ := A.d_ask_of_all
  have g_ask_of_all := PySem.W.mg_of X G a_ask_of_all
  obtain ⟨f_answer_by_book, d_answer_by_book, a_answer_by_book, F_answer_by_book⟩ := A.d_answer_by_book
  have g_answer_by_book := PySem.W.mg_of X G a_answer_by_book
  have p_copy_of_cabin := F_copy_of_cabin.binds (ps := ["cabin"]) fun _ _ _ _ _ _ us hl => match us, hl with | [_], _ => rfl
  have p_copy_of_party := F_copy_of_party.binds (ps := ["party"]) fun _ _ _ _ _ _ us hl => match us, hl with | [_], _ => rfl
  have p_copy_of_ship := F_copy_of_ship.binds (ps := ["ship"]) fun _ _ _ _ _ _ us hl => match us, hl with | [_], _ => rfl
  have p_most_housed := F_most_housed.binds (ps := ["wishes"]) fun _ _ _ _ _ _ us hl => match us, hl with | [_], _ => rfl
  have p_find_cabin := F_find_cabin.binds (ps := ["party", "wishes", "holders", "tried"]) fun _ _ _ _ _ _ us hl => match us, hl with | [_, _, _, _], _ => rfl
  have p_others := F_others.binds (ps := ["wish", "cabin"]) fun _ _ _ _ _ _ us hl => match us, hl with | [_, _], _ => rfl
  have p_without_cabin := F_without_cabin.binds (ps := ["wishes", "cabin"]) fun _ _ _ _ _ _ us hl => match us, hl with | [_, _], _ => rfl
  have p_best_cabin := F_best_cabin.binds (ps := ["wish", "behind"]) fun _ _ _ _ _ _ us hl => match us, hl with | [_, _], _ => rfl
  have p_planned_cabins := F_planned_cabins.binds (ps := ["wishes"]) fun _ _ _ _ _ _ us hl => match us, hl with | [_], _ => rfl
  have p_wish_of := F_wish_of.binds (ps := ["ship", "p", "cabins"]) fun _ _ _ _ _ _ us hl => match us, hl with | [_, _, _], _ => rfl
  have p_wishes_of := F_wishes_of.binds (ps := ["ship", "parties"]) fun _ _ _ _ _ _ us hl => match us, hl with | [_, _], _ => rfl
  have p_most_of := F_most_of.binds (ps := ["ship", "parties"]) fun _ _ _ _ _ _ us hl => match us, hl with | [_, _], _ => rfl
  have p_plan_of := F_plan_of.binds (ps := ["ship"]) fun _ _ _ _ _ _ us hl => match us, hl with | [_], _ => rfl
  have p_add_cabin := F_add_cabin.binds (ps := ["ship", "deck", "place", "rank", "berths", "flat"]) fun _ _ _ _ _ _ us hl => match us, hl with | [_, _, _, _, _, _], _ => rfl
  have p_add_party := F_add_party.binds (ps := ["ship", "many", "rank", "flat"]) fun _ _ _ _ _ _ us hl => match us, hl with | [_, _, _, _], _ => rfl
  have p_give_cabin := F_give_cabin.binds (ps := ["ship", "p", "k"]) fun _ _ _ _ _ _ us hl => match us, hl with | [_, _, _], _ => rfl
  have p_leave_ship := F_leave_ship.binds (ps := ["ship", "p"]) fun _ _ _ _ _ _ us hl => match us, hl with | [_, _], _ => rfl
  have p_shut_cabin := F_shut_cabin.binds (ps := ["ship", "k", "out"]) fun _ _ _ _ _ _ us hl => match us, hl with | [_, _, _], _ => rfl
  have p_move_party := F_move_party.binds (ps := ["ship", "p", "k"]) fun _ _ _ _ _ _ us hl => match us, hl with | [_, _, _], _ => rfl
  have p_swap_parties := F_swap_parties.binds (ps := ["ship", "p", "q"]) fun _ _ _ _ _ _ us hl => match us, hl with | [_, _, _], _ => rfl
  have p_take_plan := F_take_plan.binds (ps := ["ship"]) fun _ _ _ _ _ _ us hl => match us, hl with | [_], _ => rfl
  have p_pay_class := F_pay_class.binds (ps := ["ship", "p", "rank"]) fun _ _ _ _ _ _ us hl => match us, hl with | [_, _, _], _ => rfl
  have p_bits_of := F_bits_of.binds (ps := ["numbers"]) fun _ _ _ _ _ _ us hl => match us, hl with | [_], _ => rfl
  have p_told_cabin := F_told_cabin.binds (ps := ["cabin"]) fun _ _ _ _ _ _ us hl => match us, hl with | [_], _ => rfl
  have p_tell_does := F_tell_does.binds (ps := ["ship", "p", "k"]) fun _ _ _ _ _ _ us hl => match us, hl with | [_, _, _], _ => rfl
  have p_tell_most := F_tell_most.binds (ps := ["ship"]) fun _ _ _ _ _ _ us hl => match us, hl with | [_], _ => rfl
  have p_tell_plan := F_tell_plan.binds (ps := ["ship"]) fun _ _ _ _ _ _ us hl => match us, hl with | [_], _ => rfl
  have p_tell_would := F_tell_would.binds (ps := ["ship", "p"]) fun _ _ _ _ _ _ us hl => match us, hl with | [_, _], _ => rfl
  have p_tell_choices := F_tell_choices.binds (ps := ["ship", "p"]) fun _ _ _ _ _ _ us hl => match us, hl with | [_, _], _ => rfl
  have p_tell_beside := F_tell_beside.binds (ps := ["ship", "k"]) fun _ _ _ _ _ _ us hl => match us, hl with | [_, _], _ => rfl
  have p_tell_who := F_tell_who.binds (ps := ["ship", "k"]) fun _ _ _ _ _ _ us hl => match us, hl with | [_, _], _ => rfl
  have p_tell_look := F_tell_look.binds (ps := ["ship", "p"]) fun _ _ _ _ _ _ us hl => match us, hl with | [_, _], _ => rfl
  have p_tell_see := F_tell_see.binds (ps := ["ship", "k"]) fun _ _ _ _ _ _ us hl => match us, hl with | [_, _], _ => rfl
  have p_tell_frees := F_tell_frees.binds (ps := ["ship"]) fun _ _ _ _ _ _ us hl => match us, hl with | [_], _ => rfl
  have p_tell_better := F_tell_better.binds (ps := ["ship"]) fun _ _ _ _ _ _ us hl => match us, hl with | [_], _ => rfl
  have p_tell_sums := F_tell_sums.binds (ps := ["ship"]) fun _ _ _ _ _ _ us hl => match us, hl with | [_], _ => rfl
  have p_tell_state := F_tell_state.binds (ps := ["book"]) fun _ _ _ _ _ _ us hl => match us, hl with | [_], _ => rfl
  have p_answers := F_answers.binds (ps := ["calls"]) fun _ _ _ _ _ _ us hl => match us, hl with | [_], _ => rfl
  have p_answer_call := F_answer_call.binds (ps := ["book", "call", "given"]) fun _ _ _ _ _ _ us hl => match us, hl with | [_, _, _], _ => rfl
  have p_answer_change := F_answer_change.binds (ps := ["book", "call", "given"]) fun _ _ _ _ _ _ us hl => match us, hl with | [_, _, _], _ => rfl
  have p_change_ship := F_change_ship.binds (ps := ["ship", "call", "given"]) fun _ _ _ _ _ _ us hl => match us, hl with | [_, _, _], _ => rfl
  have p_ask_of_housing := F_ask_of_housing.binds (ps := ["ship", "call", "given"]) fun _ _ _ _ _ _ us hl => match us, hl with | [_, _, _], _ => rfl
  have p_ask_of_one := F_ask_of_one.binds (ps := ["ship", "call", "number"]) fun _ _ _ _ _ _ us hl => match us, hl with | [_, _, _], _ => rfl
  have p_ask_of_all := F_ask_of_all.binds (ps := ["ship", "call"]) fun _ _ _ _ _ _ us hl => match us, hl with | [_, _], _ => rfl
  have p_answer_by_book := F_answer_by_book.binds (ps := ["book", "call"]) fun _ _ _ _ _ _ us hl => match us, hl with | [_, _], _ => rfl
  obtain ⟨f_cInit, d_cInit, M_cInit, F_cInit⟩ := A.m_cInit
  have p_cInit := F_cInit.binds (ps := ["self", "deck", "place", "rank", "berths", "flat"]) fun _ _ _ _ _ _ us hl => match us, hl with | [_, _, _, _, _, _], _ => rfl
  obtain ⟨f_pInit, d_pInit, M_pInit, F_pInit⟩ := A.m_pInit
  have p_pInit := F_pInit.binds (ps := ["self", "many", "rank", "flat"]) fun _ _ _ _ _ _ us hl => match us, hl with | [_, _, _, _], _ => rfl
  obtain ⟨f_sInit, d_sInit, M_sInit, F_sInit⟩ := A.m_sInit
  have p_sInit := F_sInit.binds (ps := ["self"]) fun _ _ _ _ _ _ us hl => match us, hl with | [_], _ => rfl
  obtain ⟨f_has_cabin, d_has_cabin, M_has_cabin, F_has_cabin⟩ := A.m_has_cabin
  have p_has_cabin := F_has_cabin.binds (ps := ["self", "k"]) fun _ _ _ _ _ _ us hl => match us, hl with | [_, _], _ => rfl
  obtain ⟨f_has_party, d_has_party, M_has_party, F_has_party⟩ := A.m_has_party
  have p_has_party := F_has_party.binds (ps := ["self", "p"]) fun _ _ _ _ _ _ us hl => match us, hl with | [_, _], _ => rfl
  obtain ⟨f_is_at, d_is_at, M_is_at, F_is_at⟩ := A.m_is_at
  have p_is_at := F_is_at.binds (ps := ["self", "deck", "place"]) fun _ _ _ _ _ _ us hl => match us, hl with | [_, _, _], _ => rfl
  obtain ⟨f_is_beside, d_is_beside, M_is_beside, F_is_beside⟩ := A.m_is_beside
  have p_is_beside := F_is_beside.binds (ps := ["self", "k", "other"]) fun _ _ _ _ _ _ us hl => match us, hl with | [_, _, _], _ => rfl
  obtain ⟨f_holder_of, d_holder_of, M_holder_of, F_holder_of⟩ := A.m_holder_of
  have p_holder_of := F_holder_of.binds (ps := ["self", "k"]) fun _ _ _ _ _ _ us hl => match us, hl with | [_, _], _ => rfl
  obtain ⟨f_is_free, d_is_free, M_is_free, F_is_free⟩ := A.m_is_free
  have p_is_free := F_is_free.binds (ps := ["self", "k"]) fun _ _ _ _ _ _ us hl => match us, hl with | [_, _], _ => rfl
  obtain ⟨f_all_cabins, d_all_cabins, M_all_cabins, F_all_cabins⟩ := A.m_all_cabins
  have p_all_cabins := F_all_cabins.binds (ps := ["self"]) fun _ _ _ _ _ _ us hl => match us, hl with | [_], _ => rfl
  obtain ⟨f_free_among, d_free_among, M_free_among, F_free_among⟩ := A.m_free_among
  have p_free_among := F_free_among.binds (ps := ["self", "cabins"]) fun _ _ _ _ _ _ us hl => match us, hl with | [_, _], _ => rfl
  obtain ⟨f_free_cabins, d_free_cabins, M_free_cabins, F_free_cabins⟩ := A.m_free_cabins
  have p_free_cabins := F_free_cabins.binds (ps := ["self"]) fun _ _ _ _ _ _ us hl => match us, hl with | [_], _ => rfl
  obtain ⟨f_waits, d_waits, M_waits, F_waits⟩ := A.m_waits
  have p_waits := F_waits.binds (ps := ["self", "p"]) fun _ _ _ _ _ _ us hl => match us, hl with | [_, _], _ => rfl
  obtain ⟨f_waiting_parties, d_waiting_parties, M_waiting_parties, F_waiting_parties⟩ := A.m_waiting_parties
  have p_waiting_parties := F_waiting_parties.binds (ps := ["self"]) fun _ _ _ _ _ _ us hl => match us, hl with | [_], _ => rfl
  obtain ⟨f_housed_parties, d_housed_parties, M_housed_parties, F_housed_parties⟩ := A.m_housed_parties
  have p_housed_parties := F_housed_parties.binds (ps := ["self"]) fun _ _ _ _ _ _ us hl => match us, hl with | [_], _ => rfl
  obtain ⟨f_is_better, d_is_better, M_is_better, F_is_better⟩ := A.m_is_better
  have p_is_better := F_is_better.binds (ps := ["self", "p"]) fun _ _ _ _ _ _ us hl => match us, hl with | [_, _], _ => rfl
  obtain ⟨f_does, d_does, M_does, F_does⟩ := A.m_does
  have p_does := F_does.binds (ps := ["self", "p", "k"]) fun _ _ _ _ _ _ us hl => match us, hl with | [_, _, _], _ => rfl
  obtain ⟨f_bInit, d_bInit, M_bInit, F_bInit⟩ := A.m_bInit
  have p_bInit := F_bInit.binds (ps := ["self"]) fun _ _ _ _ _ _ us hl => match us, hl with | [_], _ => rfl
  obtain ⟨f_start_anew, d_start_anew, M_start_anew, F_start_anew⟩ := A.m_start_anew
  have p_start_anew := F_start_anew.binds (ps := ["self"]) fun _ _ _ _ _ _ us hl => match us, hl with | [_], _ => rfl
  obtain ⟨f_enter_change, d_enter_change, M_enter_change, F_enter_change⟩ := A.m_enter_change
  have p_enter_change := F_enter_change.binds (ps := ["self", "changed"]) fun _ _ _ _ _ _ us hl => match us, hl with | [_, _], _ => rfl
  obtain ⟨f_take_back, d_take_back, M_take_back, F_take_back⟩ := A.m_take_back
  have p_take_back := F_take_back.binds (ps := ["self"]) fun _ _ _ _ _ _ us hl => match us, hl with | [_], _ => rfl
  obtain ⟨f_do_again, d_do_again, M_do_again, F_do_again⟩ := A.m_do_again
  have p_do_again := F_do_again.binds (ps := ["self"]) fun _ _ _ _ _ _ us hl => match us, hl with | [_], _ => rfl
  have p7 := F7.binds (ps := ["ship", "cabins"]) fun _ _ _ _ _ _ us hl => match us, hl with | [_, _], _ => rfl
  have T : Txt K ⟨cC, cP, cS⟩ := ⟨A.kCabin.cls, A.kParty.cls, A.kShip.cls, A.nCabin_deck, A.nCabin_place, A.nCabin_rank, A.nCabin_berths, A.nCabin_flat, A.nCabin_out, A.nParty_many, A.nParty_rank, A.nParty_flat, A.nParty_cabin, A.nParty_gone, A.nShip_cabins, A.nShip_parties⟩
  have TB : TxtB K cB := ⟨A.kBook.cls, A.nBook_ship, A.nBook_earlier, A.nBook_later⟩
  have kC := A.kCabin.toMk M_cInit
  have gkC := PySem.W.mg_of X G A.kCabin.ns
  have kP := A.kParty.toMk M_pInit
  have gkP := PySem.W.mg_of X G A.kParty.ns
  have kS := A.kShip.toMk M_sInit
  have gkS := PySem.W.mg_of X G A.kShip.ns
  have kB := A.kBook.toMk M_bInit
  have gkB := PySem.W.mg_of X G A.kBook.ns
  have t_has_cabin : Mt P w K mg base cS 1 "has_cabin" ["self", "k"] (spHasC ⟨cC, cP, cS⟩) f_has_cabin d_has_cabin := ⟨ok_hasC F_has_cabin T b_len, M_has_cabin, p_has_cabin⟩
  have t_has_party : Mt P w K mg base cS 1 "has_party" ["self", "p"] (spHasP ⟨cC, cP, cS⟩) f_has_party d_has_party := ⟨ok_hasP F_has_party T b_len, M_has_party, p_has_party⟩
  have t_is_at : Mt P w K mg base cS 1 "is_at" ["self", "deck", "place"] (spIsAt ⟨cC, cP, cS⟩) f_is_at d_is_at := ⟨ok_isAt F_is_at T, M_is_at, p_is_at⟩
  have t_holder_of : Mt P w K mg base cS 1 "holder_of" ["self", "k"] (spHolder ⟨cC, cP, cS⟩) f_holder_of d_holder_of := ⟨ok_holder F_holder_of T b_len b_range, M_holder_of, p_holder_of⟩
  have t_is_free : Mt P w K mg base cS 2 "is_free" ["self", "k"] (spIsFree ⟨cC, cP, cS⟩) f_is_free d_is_free := ⟨ok_isFree F_is_free T t_holder_of, M_is_free, p_is_free⟩
  have t_all_cabins : Mt P w K mg base cS 1 "all_cabins" ["self"] (spAllC ⟨cC, cP, cS⟩) f_all_cabins d_all_cabins := ⟨ok_allC F_all_cabins T b_len b_range b_list, M_all_cabins, p_all_cabins⟩
  have t_free_among : Mt P w K mg base cS 3 "free_among" ["self", "cabins"] (spFreeAm ⟨cC, cP, cS⟩) f_free_among d_free_among := ⟨ok_freeAm F_free_among T t_is_free, M_free_among, p_free_among⟩
  have t_free_cabins : Mt P w K mg base cS 4 "free_cabins" ["self"] (spFrees ⟨cC, cP, cS⟩) f_free_cabins d_free_cabins := ⟨ok_frees F_free_cabins T t_all_cabins t_free_among, M_free_cabins, p_free_cabins⟩
  have t_waits : Mt P w K mg base cS 2 "waits" ["self", "p"] (spWaits ⟨cC, cP, cS⟩) f_waits d_waits := ⟨ok_waits F_waits T t_has_party, M_waits, p_waits⟩
  have t_waiting_parties : Mt P w K mg base cS 3 "waiting_parties" ["self"] (spWaiting ⟨cC, cP, cS⟩) f_waiting_parties d_waiting_parties := ⟨ok_waiting F_waiting_parties T t_waits b_len b_range, M_waiting_parties, p_waiting_parties⟩
  have t_housed_parties : Mt P w K mg base cS 1 "housed_parties" ["self"] (spHoused ⟨cC, cP, cS⟩) f_housed_parties d_housed_parties := ⟨ok_housed F_housed_parties T b_len b_range, M_housed_parties, p_housed_parties⟩
  have t_is_better : Mt P w K mg base cS 1 "is_better" ["self", "p"] (spBetter ⟨cC, cP, cS⟩) f_is_better d_is_better := ⟨ok_better F_is_better T, M_is_better, p_is_better⟩
  have t_is_beside : Mt P w K mg base cS 1 "is_beside" ["self", "k", "other"] (spBeside ⟨cC, cP, cS⟩) f_is_beside d_is_beside := ⟨ok_beside F_is_beside T b_abs, M_is_beside, p_is_beside⟩
  have t_does : Mt P w K mg base cS 1 "does" ["self", "p", "k"] (spDoes ⟨cC, cP, cS⟩) f_does d_does := ⟨ok_does F_does T, M_does, p_does⟩
  have M : Ms P w K mg base ⟨cC, cP, cS⟩ (fun i => [f_has_cabin, f_has_party, f_is_at, f_is_free, f_free_cabins, f_waiting_parties, f_does, f_is_beside, f_holder_of, f_all_cabins, f_free_among, f_waits, f_housed_parties, f_is_better].getD i 0) (fun i => [d_has_cabin, d_has_party, d_is_at, d_is_free, d_free_cabins, d_waiting_parties, d_does, d_is_beside, d_holder_of, d_all_cabins, d_free_among, d_waits, d_housed_parties, d_is_better].getD i d_does) := ⟨t_has_cabin.mono (by decide), t_has_party.mono (by decide), t_is_at.mono (by decide), t_is_free.mono (by decide), t_free_cabins.mono (by decide), t_waiting_parties.mono (by decide), t_does.mono (by decide), t_is_beside.mono (by decide), t_holder_of.mono (by decide), t_all_cabins.mono (by decide), t_free_among.mono (by decide), t_waits.mono (by decide), t_housed_parties.mono (by decide), t_is_better.mono (by decide)⟩
  have W : House P w K mg base f_most_housed f_without_cabin d_most_housed d_without_cabin := ⟨ok_most F_most_housed F_find_cabin p_find_cabin g_find_cabin b_len b_range, F_most_housed.kp, p_most_housed, g_most_housed, ok_without F_without_cabin F_others p_others g_others, F_without_cabin.kp, p_without_cabin, g_without_cabin⟩
  have e_others : Df P w K mg base 1 "others" ["wish", "cabin"] (spOthers) f_others d_others := ⟨ok_others F_others, F_others.kp, p_others, g_others⟩
  have e_most_housed : Df P w K mg base 14 "most_housed" ["wishes"] (spMost) f_most_housed d_most_housed := ⟨W.most, F_most_housed.kp, p_most_housed, g_most_housed⟩
  have e_planned_cabins : Df P w K mg base 16 "planned_cabins" ["wishes"] (spPlanned) f_planned_cabins d_planned_cabins := ⟨ok_planned F_planned_cabins W F_best_cabin p_best_cabin g_best_cabin b_len, F_planned_cabins.kp, p_planned_cabins, g_planned_cabins⟩
  have e7 : Df P w K mg base 3 "frugal_order" ["ship", "cabins"] (spFrugal ⟨cC, cP, cS⟩ Pt) f7 d7 := ⟨ok_frugal F7 T bm b_sorted, F7.kp, p7, m7⟩
  have e_wish_of : Df P w K mg base 2 "wish_of" ["ship", "p", "cabins"] (spWishOf ⟨cC, cP, cS⟩) f_wish_of d_wish_of := ⟨ok_wishOf F_wish_of T t_does, F_wish_of.kp, p_wish_of, g_wish_of⟩
  have e_wishes_of : Df P w K mg base 5 "wishes_of" ["ship", "parties"] (spWW ⟨cC, cP, cS⟩ Pt) f_wishes_of d_wishes_of := ⟨ok_ww F_wishes_of T e7 e_wish_of t_free_cabins, F_wishes_of.kp, p_wishes_of, g_wishes_of⟩
  have e_most_of : Df P w K mg base 15 "most_of" ["ship", "parties"] (spMostOf ⟨cC, cP, cS⟩ Pt) f_most_of d_most_of := ⟨ok_mostOf F_most_of e_most_housed e_wishes_of, F_most_of.kp, p_most_of, g_most_of⟩
  have e_plan_of : Df P w K mg base 17 "plan_of" ["ship"] (spPlanOf ⟨cC, cP, cS⟩ Pt) f_plan_of d_plan_of := ⟨ok_planOf F_plan_of T e_planned_cabins e_wishes_of (t_waiting_parties.mono (by decide)) b_zip, F_plan_of.kp, p_plan_of, g_plan_of⟩
  have e_add_cabin : Df P w K mg base 5 "add_cabin" ["ship", "deck", "place", "rank", "berths", "flat"] (spChg ⟨cC, cP, cS⟩ 5 mkCabin) f_add_cabin d_add_cabin := ⟨ok_addC F_add_cabin T M kC F_cInit p_cInit gkC b_len c_NOT_AS_TOLD c_NO_MORE c_LAST_DECK c_LAST_PLACE c_BEST_CLASS c_MOST_BERTHS c_MOST_CABINS, F_add_cabin.kp, p_add_cabin, g_add_cabin⟩
  have e_add_party : Df P w K mg base 5 "add_party" ["ship", "many", "rank", "flat"] (spChg ⟨cC, cP, cS⟩ 3 mkParty) f_add_party d_add_party := ⟨(ok_addP F_add_party T kP F_pInit p_pInit gkP b_len c_NOT_AS_TOLD c_NO_MORE c_BEST_CLASS c_MOST_BERTHS c_MOST_PARTIES).mono (by decide), F_add_party.kp, p_add_party, g_add_party⟩
  have e_give_cabin : Df P w K mg base 5 "give_cabin" ["ship", "p", "k"] (spChg ⟨cC, cP, cS⟩ 2 mkGive) f_give_cabin d_give_cabin := ⟨ok_give F_give_cabin T M c_NOT_THERE c_ALREADY_SO c_NOT_FREE c_DOES_NOT_DO, F_give_cabin.kp, p_give_cabin, g_give_cabin⟩
  have e_leave_ship : Df P w K mg base 5 "leave_ship" ["ship", "p"] (spChg ⟨cC, cP, cS⟩ 1 mkLeave) f_leave_ship d_leave_ship := ⟨ok_leave F_leave_ship T M c_NOT_THERE, F_leave_ship.kp, p_leave_ship, g_leave_ship⟩
  have e_shut_cabin : Df P w K mg base 5 "shut_cabin" ["ship", "k", "out"] (spChg ⟨cC, cP, cS⟩ 2 mkShut) f_shut_cabin d_shut_cabin := ⟨ok_shut F_shut_cabin T M b_len c_NOT_THERE c_NOT_AS_TOLD c_NOT_FREE c_ALREADY_SO, F_shut_cabin.kp, p_shut_cabin, g_shut_cabin⟩
  have e_move_party : Df P w K mg base 5 "move_party" ["ship", "p", "k"] (spChg ⟨cC, cP, cS⟩ 2 mkMove) f_move_party d_move_party := ⟨ok_move F_move_party T M c_NOT_THERE c_NOBODY c_NOT_FREE c_DOES_NOT_DO, F_move_party.kp, p_move_party, g_move_party⟩
  have e_swap_parties : Df P w K mg base 5 "swap_parties" ["ship", "p", "q"] (spChg ⟨cC, cP, cS⟩ 2 mkSwap) f_swap_parties d_swap_parties := ⟨ok_swap F_swap_parties T M c_NOT_THERE c_NOT_AS_TOLD c_NOBODY c_DOES_NOT_DO, F_swap_parties.kp, p_swap_parties, g_swap_parties⟩
  have e_take_plan : Df P w K mg base 18 "take_plan" ["ship"] (spTake ⟨cC, cP, cS⟩ Pt) f_take_plan d_take_plan := ⟨ok_take F_take_plan T M e_plan_of b_len c_NOBODY, F_take_plan.kp, p_take_plan, g_take_plan⟩
  have e_pay_class : Df P w K mg base 5 "pay_class" ["ship", "p", "rank"] (spChg ⟨cC, cP, cS⟩ 2 mkPay) f_pay_class d_pay_class := ⟨ok_pay F_pay_class T M c_NOT_THERE c_NOT_AS_TOLD c_DOES_NOT_DO c_BEST_CLASS, F_pay_class.kp, p_pay_class, g_pay_class⟩
  have e_told_cabin : Df P w K mg base 1 "told_cabin" ["cabin"] (spTold) f_told_cabin d_told_cabin := ⟨ok_told F_told_cabin, F_told_cabin.kp, p_told_cabin, g_told_cabin⟩
  have e_bits_of : Df P w K mg base 1 "bits_of" ["numbers"] (spBits) f_bits_of d_bits_of := ⟨ok_bits F_bits_of b_sum, F_bits_of.kp, p_bits_of, g_bits_of⟩
  have e_tell_does : Df P w K mg base 5 "tell_does" ["ship", "p", "k"] (spAsk ⟨cC, cP, cS⟩ Pt 2 mkDoes) f_tell_does d_tell_does := ⟨ok_tDoes F_tell_does T M c_NOT_THERE, F_tell_does.kp, p_tell_does, g_tell_does⟩
  have e_tell_most : Df P w K mg base 16 "tell_most" ["ship"] (spAsk ⟨cC, cP, cS⟩ Pt 0 mkMost) f_tell_most d_tell_most := ⟨ok_tMost F_tell_most T M e_most_of b_len, F_tell_most.kp, p_tell_most, g_tell_most⟩
  have e_tell_plan : Df P w K mg base 18 "tell_plan" ["ship"] (spAsk ⟨cC, cP, cS⟩ Pt 0 mkPlan) f_tell_plan d_tell_plan := ⟨ok_tPlan (fa := fun _ => 0) (fds := fun _ => d_does) F_tell_plan e_plan_of e_told_cabin b_len b_range c_PLAN_LENGTH, F_tell_plan.kp, p_tell_plan, g_tell_plan⟩
  have e_tell_would : Df P w K mg base 16 "tell_would" ["ship", "p"] (spAsk ⟨cC, cP, cS⟩ Pt 1 (mk1 .would)) f_tell_would d_tell_would := ⟨ok_tWould F_tell_would T M e_most_of e_others c_NOT_THERE c_ALREADY_SO, F_tell_would.kp, p_tell_would, g_tell_would⟩
  have e_tell_choices : Df P w K mg base 5 "tell_choices" ["ship", "p"] (spAsk ⟨cC, cP, cS⟩ Pt 1 (mk1 .choices)) f_tell_choices d_tell_choices := ⟨ok_tChoices F_tell_choices T M e_wish_of e_bits_of b_len c_NOT_THERE, F_tell_choices.kp, p_tell_choices, g_tell_choices⟩
  have e_tell_beside : Df P w K mg base 5 "tell_beside" ["ship", "k"] (spAsk ⟨cC, cP, cS⟩ Pt 1 (mk1 .beside)) f_tell_beside d_tell_beside := ⟨ok_tBeside F_tell_beside T M e_bits_of b_len c_NOT_THERE, F_tell_beside.kp, p_tell_beside, g_tell_beside⟩
  have e_tell_who : Df P w K mg base 5 "tell_who" ["ship", "k"] (spAsk ⟨cC, cP, cS⟩ Pt 1 (mk1 .who)) f_tell_who d_tell_who := ⟨ok_tWho F_tell_who T M c_NOT_THERE c_NOBODY, F_tell_who.kp, p_tell_who, g_tell_who⟩
  have e_tell_look : Df P w K mg base 5 "tell_look" ["ship", "p"] (spAsk ⟨cC, cP, cS⟩ Pt 1 (mk1 .look)) f_tell_look d_tell_look := ⟨ok_tLook F_tell_look T M e_told_cabin c_NOT_THERE, F_tell_look.kp, p_tell_look, g_tell_look⟩
  have e_tell_see : Df P w K mg base 5 "tell_see" ["ship", "k"] (spAsk ⟨cC, cP, cS⟩ Pt 1 (mk1 .see)) f_tell_see d_tell_see := ⟨ok_tSee F_tell_see T M c_NOT_THERE, F_tell_see.kp, p_tell_see, g_tell_see⟩
  have e_tell_frees : Df P w K mg base 5 "tell_frees" ["ship"] (spAsk ⟨cC, cP, cS⟩ Pt 0 (mk0 .frees)) f_tell_frees d_tell_frees := ⟨ok_tFrees F_tell_frees T M e_bits_of b_len, F_tell_frees.kp, p_tell_frees, g_tell_frees⟩
  have e_tell_better : Df P w K mg base 5 "tell_better" ["ship"] (spAsk ⟨cC, cP, cS⟩ Pt 0 (mk0 .better)) f_tell_better d_tell_better := ⟨ok_tBetter F_tell_better T M e_bits_of b_len, F_tell_better.kp, p_tell_better, g_tell_better⟩
  have e_tell_sums : Df P w K mg base 5 "tell_sums" ["ship"] (spAsk ⟨cC, cP, cS⟩ Pt 0 (mk0 .sums)) f_tell_sums d_tell_sums := ⟨ok_tSums F_tell_sums T M b_len b_sum, F_tell_sums.kp, p_tell_sums, g_tell_sums⟩
  have e_tell_state : ∀ t : Addr, Df P w K mg base 1 "tell_state" ["book"] (spState ⟨cC, cP, cS⟩ cB t Pt) f_tell_state d_tell_state := fun t => ⟨ok_tState F_tell_state T TB b_len, F_tell_state.kp, p_tell_state, g_tell_state⟩
  have e_copy_of_cabin : Df P w K mg base 3 "copy_of_cabin" ["cabin"] (spCopyC ⟨cC, cP, cS⟩) f_copy_of_cabin d_copy_of_cabin := ⟨ok_copyC F_copy_of_cabin T kC F_cInit p_cInit gkC, F_copy_of_cabin.kp, p_copy_of_cabin, g_copy_of_cabin⟩
  have e_copy_of_party : Df P w K mg base 3 "copy_of_party" ["party"] (spCopyP ⟨cC, cP, cS⟩) f_copy_of_party d_copy_of_party := ⟨ok_copyP F_copy_of_party T kP F_pInit p_pInit gkP, F_copy_of_party.kp, p_copy_of_party, g_copy_of_party⟩
  have e_copy_of_ship : Df P w K mg base 4 "copy_of_ship" ["ship"] (spCopyS ⟨cC, cP, cS⟩) f_copy_of_ship d_copy_of_ship := ⟨ok_copyS F_copy_of_ship T kS F_sInit p_sInit gkS e_copy_of_cabin e_copy_of_party, F_copy_of_ship.kp, p_copy_of_ship, g_copy_of_ship⟩
  have t_start_anew : ∀ t : Addr, Mt P w K mg base cB 3 "start_anew" ["self"] (spAnew ⟨cC, cP, cS⟩ cB t) f_start_anew d_start_anew := fun t => ⟨ok_anew F_start_anew T TB kS F_sInit p_sInit gkS, M_start_anew, p_start_anew⟩
  have t_enter_change : ∀ t : Addr, Mt P w K mg base cB 1 "enter_change" ["self", "changed"] (spEnter ⟨cC, cP, cS⟩ cB t) f_enter_change d_enter_change := fun t => ⟨ok_enter F_enter_change TB c_MOST_TAKEN_BACK, M_enter_change, p_enter_change⟩
  have t_take_back : ∀ t : Addr, Mt P w K mg base cB 1 "take_back" ["self"] (spBk ⟨cC, cP, cS⟩ cB t .back) f_take_back d_take_back := fun t => ⟨ok_back F_take_back TB b_len c_NOT_THERE, M_take_back, p_take_back⟩
  have t_do_again : ∀ t : Addr, Mt P w K mg base cB 1 "do_again" ["self"] (spBk ⟨cC, cP, cS⟩ cB t .again) f_do_again d_do_again := fun t => ⟨ok_again F_do_again TB b_len c_NOT_THERE, M_do_again, p_do_again⟩
  have GI : ∀ t : Addr, FnOk P w K mg base CX0 4 f_bInit d_bInit ["self"] (spBInit ⟨cC, cP, cS⟩ cB t) := fun t => ok_bInit F_bInit TB (t_start_anew t)
  have CG : Cgs mg := ⟨c_CG_START, c_CG_CABIN, c_CG_PARTY, c_CG_GIVE, c_CG_LEAVE, c_CG_SHUT, c_CG_MOVE, c_CG_SWAP, c_CG_TAKE, c_CG_PAY, c_CG_DOES, c_CG_MOST, c_CG_PLAN, c_CG_WOULD, c_CG_CHOICES, c_CG_BESIDE, c_CG_WHO, c_CG_LOOK, c_CG_SEE, c_CG_FREES, c_CG_BETTER, c_CG_SUMS, c_CG_BACK, c_CG_AGAIN⟩
  have CH : Chs P w K mg base ⟨cC, cP, cS⟩ Pt (fun i => [f_add_cabin, f_add_party, f_give_cabin, f_leave_ship, f_shut_cabin, f_move_party, f_swap_parties, f_take_plan, f_pay_class].getD i 0) (fun i => [d_add_cabin, d_add_party, d_give_cabin, d_leave_ship, d_shut_cabin, d_move_party, d_swap_parties, d_take_plan, d_pay_class].getD i d_does) := ⟨e_add_cabin, e_add_party, e_give_cabin, e_leave_ship, e_shut_cabin, e_move_party, e_swap_parties, e_take_plan, e_pay_class⟩
  have e_change_ship : Df P w K mg base 19 "change_ship" ["ship", "call", "given"] (spCS ⟨cC, cP, cS⟩ Pt) f_change_ship d_change_ship := ⟨ok_cShip F_change_ship CG CH, F_change_ship.kp, p_change_ship, g_change_ship⟩
  have e_answer_change : ∀ t : Addr, Df P w K mg base 20 "answer_change" ["book", "call", "given"] (spAC ⟨cC, cP, cS⟩ cB t Pt) f_answer_change d_answer_change := fun t => ⟨ok_aChange F_answer_change TB e_copy_of_ship e_change_ship (t_enter_change t), F_answer_change.kp, p_answer_change, g_answer_change⟩
  have e_ask_of_housing : Df P w K mg base 19 "ask_of_housing" ["ship", "call", "given"] (spAH ⟨cC, cP, cS⟩ Pt) f_ask_of_housing d_ask_of_housing := ⟨ok_askH F_ask_of_housing CG e_tell_does e_tell_most e_tell_plan, F_ask_of_housing.kp, p_ask_of_housing, g_ask_of_housing⟩
  have e_ask_of_one : Df P w K mg base 17 "ask_of_one" ["ship", "call", "number"] (spA1 ⟨cC, cP, cS⟩ Pt) f_ask_of_one d_ask_of_one := ⟨ok_ask1 (fa := fun i => [f_tell_would, f_tell_choices, f_tell_beside, f_tell_who, f_tell_look, f_tell_see].getD i 0) (ds := fun i => [d_tell_would, d_tell_choices, d_tell_beside, d_tell_who, d_tell_look, d_tell_see].getD i d_does) F_ask_of_one CG e_tell_would e_tell_choices e_tell_beside e_tell_who e_tell_look e_tell_see, F_ask_of_one.kp, p_ask_of_one, g_ask_of_one⟩
  have e_ask_of_all : Df P w K mg base 6 "ask_of_all" ["ship", "call"] (spAA ⟨cC, cP, cS⟩ Pt) f_ask_of_all d_ask_of_all := ⟨ok_askA (fa := fun i => [f_tell_frees, f_tell_better, f_tell_sums].getD i 0) (ds := fun i => [d_tell_frees, d_tell_better, d_tell_sums].getD i d_does) F_ask_of_all CG e_tell_frees e_tell_better e_tell_sums, F_ask_of_all.kp, p_ask_of_all, g_ask_of_all⟩
  have e_answer_by_book : ∀ t : Addr, Df P w K mg base 2 "answer_by_book" ["book", "call"] (spBB ⟨cC, cP, cS⟩ cB t Pt) f_answer_by_book d_answer_by_book := fun t => ⟨ok_byBook F_answer_by_book TB CG (t_take_back t) (t_do_again t) (e_tell_state t), F_answer_by_book.kp, p_answer_by_book, g_answer_by_book⟩
  have e_answer_call : ∀ t : Addr, Df P w K mg base 21 "answer_call" ["book", "call", "given"] (spAns ⟨cC, cP, cS⟩ cB t Pt) f_answer_call d_answer_call := fun t => ⟨ok_aCall (fa := fun i => [f_answer_change, f_ask_of_housing, f_ask_of_one, f_ask_of_all, f_answer_by_book].getD i 0) (ds := fun i => [d_answer_change, d_ask_of_housing, d_ask_of_one, d_ask_of_all, d_answer_by_book].getD i d_does) F_answer_call TB CG (t_start_anew t) (e_answer_change t) e_ask_of_housing e_ask_of_one e_ask_of_all (e_answer_by_book t), F_answer_call.kp, p_answer_call, g_answer_call⟩
  obtain ⟨hA, ob, its, n, hns, hlk, hcl, hdt, hsz, hvs⟩ := A.handed
  have ea := hfa.symm.trans g_answers
  cases ea
  exact ⟨_, F_answers, ok_answers (C := ⟨cC, cP, cS⟩) F_answers kB GI p_bInit gkB e_answer_call b_len (PySem.W.mg_of X G hns) fun H => .inr ⟨ob, its, n, hlk, hcl, hdt, hsz, hvs⟩⟩
end Cg

end
section
set_option Elab.async false
set_option linter.all false
set_option maxRecDepth 100000
namespace Cg
open PySem PySem.Spec PyProof.Rows L2
open PySem.W (Codec WData OpenSpec tabObj WellAll)
theorem all_mk {P : Program} {w : World} {K : PySem.W.Frag} {h : Heap} {mg : Str → Option Value} {fa cC cP cS cB f7 c7 Pt : Addr} {q : Program} (X : K.In h) (G : h.Ns mainGlobals mg) (hfa : mg "answers" = some (.ref fa))
    (tab : ∀ e ∈ recsOf q, ∃ a o fd c P, mg e.name = some (.ref a) ∧ h.get? a = some o ∧ o.data = .func fd ∧ fd.code = .ref c ∧ h.IsCode c P #[] ∧ h.TableAt c P #[]) (A : AllIn K cC cP cS cB)
    {od7 an7 : Option Addr} {sl7 : Array (Option Value)} {oc7 kV7 dc7 pm7 ct7 : Value} {d7 : DefRec}
    (a7 : PySem.W.nsIn K mainGlobals "frugal_order" = some (some (.ref f7))) (l7 : K.lookup f7 = some ⟨oc7, od7, .func (PySem.W.fnOf "frugal_order" "frugal_order" (defArgs sFrugal) (defBody sFrugal) (defScope sFrugal) .none kV7 dc7 pm7 an7 (.ref c7) ct7), sl7⟩) (c7i : PySem.W.codeIn K (.ref c7) "frugal_order" = true) (k7 : PySem.W.keepIn K (.ref f7) = true)
    {occ : Value} {odc : Option Addr} {vsc : Array Value} {slc : Array (Option Value)} (lc7 : K.lookup c7 = some ⟨occ, odc, .fields vsc, slc⟩) (lv7 : vsc[11]? = some (.ref Pt)) (h7 : PySem.W.codeHdIn K c7 Pt = true) (n7 : K.lookup Pt = none) (r7 : (recsOf q).find? (fun e : DefRec => e.name == ("frugal_order" : Str)) = some d7) :
    ∃ (fd : FuncData) (Pt : Addr), h.get? Pt = some (tabObj #[]) ∧ isCodeTable h Pt ∧ K.lookup Pt = none ∧ (∀ (s : Shared) (us : List Value), us.length = (["calls"] : List Str).length → BindsTo s fd ⟨us, []⟩ ((["calls"] : List Str).zip us)) ∧
      ∀ base : Heap, K.In base → base.Ns mainGlobals mg → Bm base mg → FnOk P w K mg base CX0 22 fa fd ["calls"] (spAnswers K Pt) := by
  have m7 := PySem.W.mg_of X G a7
  have F7 : FunC K "frugal_order" "frugal_order" sFrugal f7 (PySem.W.fnOf "frugal_order" "frugal_order" (defArgs sFrugal) (defBody sFrugal) (defScope sFrugal) .none kV7 dc7 pm7 an7 (.ref c7) ct7) c7 Pt := ⟨⟨oc7, od7, kV7, dc7, pm7, an7, ct7, sl7, rfl, l7, c7i⟩, k7, h7⟩
  have hn : d7.name = "frugal_order" := beq_iff_eq.mp (List.find?_some (p := fun e : DefRec => e.name == ("frugal_order" : Str)) r7)
  obtain ⟨a', o', fd', c, P', t1, t2, t3, t4, t5, t6⟩ := tab d7 (List.mem_of_find?_eq_some r7)
  rw [hn] at t1
  have e2 := t1.symm.trans (PySem.W.mg_of X G a7)
  cases e2
  have e3 := t2.symm.trans (X _ _ l7)
  cases e3
  cases t3
  cases t4
  have hP : P' = Pt := by
    obtain ⟨o, vs, file, tf, flags, tg, inF, text, tt, e1, _, e2, e3, _⟩ := PySem.W.codeHd_of_K X h7
    obtain ⟨⟨o2, vs2, u1, _, u2, u3⟩, _⟩ := t6
    rw [e1] at u1
    have u1 := Option.some.inj u1
    subst u1
    rw [e2] at u2
    injection u2 with u2
    subst u2
    rw [e3] at u3
    injection u3 with u3
    injection u3 with u3
    exact u3.symm
  subst hP
  obtain ⟨fA, dA, aA, FA⟩ := A.d_answers
  have ea := hfa.symm.trans (PySem.W.mg_of X G aA)
  cases ea
  refine ⟨dA, P', t6.2, t6.isCodeTable, n7, fun s us hu => ?_, fun base _ _ bm => ?_⟩
  · obtain ⟨oc, od, kV, doc, pm, an, cdv, ct, osl, rfl, lk, hcd⟩ := FA.ex
    match us, hu with
    | [_], _ => exact .of_eq rfl
  · obtain ⟨fd, F, ok⟩ := all_ok (P := P) (w := w) X G hfa A F7 m7 bm
    have ef : fd = dA := by
      obtain ⟨oc, od, kV, doc, pm, an, cdv, ct, osl, e1, lk, hcd⟩ := FA.ex
      obtain ⟨oc', od', kV', doc', pm', an', cdv', ct', osl', e1', lk', hcd'⟩ := F.ex
      rw [lk] at lk'
      have lk' := Option.some.inj lk'
      injection lk' with _ _ lk' _
      injection lk' with lk'
      exact lk'.symm
    rw [← ef]
    exact ok
end Cg
/-! Names taken by nothing: the head then goes on without its equations of whole states, and the compiled text stays small. -/
namespace PySem.W.Fast
def tw8715973428067556002 := ()
def tw10386255734797357594 := ()
def tw2904564030632225393 := ()
def tw17017814520093691300 := ()
def tw17183742425855249044 := ()
def tw2358393711779486606 := ()
def tw12076476767198739448 := ()
def tw11272114206896999022 := ()
def tw17915930975138696726 := ()
def tw15199853050656760863 := ()
def tw9732482865742605670 := ()
def tw12612750197436930988 := ()
def tw9767197877974455949 := ()
def tw5634921297912338177 := ()
def tw5538791734399018553 := ()
def tw9950856321814598519 := ()
def tw15500292041324254638 := ()
def tw12305794260101582970 := ()
def tw10662373900061481787 := ()
def tw16634196683571961165 := ()
def tw16288972922586859294 := ()
def tw6571196608225049083 := ()
def tw1217617625647086728 := ()
def tw2342452294773578925 := ()
def tw15766262482393575616 := ()
def tw680751578944806766 := ()
def tw6087183297149451624 := ()
def tw9665940215754559708 := ()
def tw12685512852917312824 := ()
def tw1142339920618242601 := ()
def tw9171391883206395400 := ()
def tw12474504139547521990 := ()
def tw14691560460945376894 := ()
def tw18315589112916032869 := ()
def tw17962582843575503493 := ()
def tw4512117659546823434 := ()
def tw11620212524668587590 := ()
def tw12026666764831762811 := ()
def tw3809355914036045550 := ()
def tw8763296334686127049 := ()
def tw5327966872097131654 := ()
def tw9812819495530677895 := ()
def tw12310086579134352096 := ()
def tw8128515591769351362 := ()
def tw7113830506139853842 := ()
def tw11798897343324739286 := ()
def tw10477901975139469714 := ()
def tw170665594070395397 := ()
def tw2069176399406747702 := ()
def tw18040392332165733083 := ()
def tw228801211178926356 := ()
def tw12753892532201084462 := ()
def tw10519668253626699160 := ()
def tw15474077596495940500 := ()
def tw3286446070835903626 := ()
def tw4491679392161358363 := ()
def tw17410779686477794678 := ()
def tw5486605700175789082 := ()
def tw11023442392259442797 := ()
def tw3381109501599136273 := ()
def tw18433638178824281768 := ()
def tw18027577443494430362 := ()
def tw18352958329087293527 := ()
def tw17969673744820501974 := ()
def tw15388567754163118633 := ()
def tw8878493866037686832 := ()
def tw7732554710929511909 := ()
def tw17624611647333414703 := ()
def tw7694324220264865849 := ()
def tw2394400235693944076 := ()
def tw3419244153151556668 := ()
def tw9093824538524758332 := ()
def tw6819472797980537034 := ()
def tw11691693670134674062 := ()
def tw16063030957520023568 := ()
def tw6684160500179127778 := ()
def tw7356075115275083027 := ()
def tw10822844811512663089 := ()
def tw16926755217960387269 := ()
def tw14059801511929914510 := ()
def tw7507038554221243035 := ()
def tw17774607769643764411 := ()
def tw10040813261341696313 := ()
def tw8432678487135465642 := ()
def tw17482984917336778394 := ()
def tw9672214806495600461 := ()
def tw2893886803457227695 := ()
def tw16391771840936251681 := ()
def tw10732054422040667350 := ()
def tw1369702099374070730 := ()
def tw15092735308835871672 := ()
def tw17226200291122322022 := ()
def tw16642634913017055196 := ()
def tw9411504512536040599 := ()
def tw6107143385628117242 := ()
def tw17025888417633553281 := ()
def tw4597107559116007640 := ()
def tw8821010205063152527 := ()
def tw10351127221675166424 := ()
def tw5795696894677470883 := ()
def tw12136680244735635824 := ()
def tw837853643647370745 := ()
def tw8922862200544873837 := ()
def tw7019725432981470581 := ()
def tw9773901231960755551 := ()
def tw13623087112173166483 := ()
def tw2143938831318703591 := ()
def tw1822744161890040057 := ()
def tw5967840940660883922 := ()
def tw2954420464715012235 := ()
def tw3675094609365338302 := ()
def tw8965123551168632672 := ()
def tw14409149378785903896 := ()
def tw10757584979643796359 := ()
def tw66062780782980289 := ()
def tw1188473096635348351 := ()
def tw17880902708495523540 := ()
def tw4586909601322127818 := ()
def tw17058246004331412957 := ()
def tw17650454848970354647 := ()
def tw17498287137154518871 := ()
def tw15843285846929543727 := ()
def tw15303247347728965469 := ()
def tw16640319439331158843 := ()
def tw15154013540676584647 := ()
def tw6967730971667304613 := ()
def tw17081164385151985502 := ()
def tw1649714309909215134 := ()
def tw8069942956927928111 := ()
def tw16676861799450891453 := ()
def tw8957030291562161089 := ()
def tw16206176013233389435 := ()
def tw10328391630181694354 := ()
def tw12599666400655780850 := ()
def tw5915833593009464851 := ()
def tw16397598575606351902 := ()
def tw17997716362300347011 := ()
def tw16438507935603404870 := ()
def tw159864900800338214 := ()
def tw4761393891482933791 := ()
def tw14861891252945163800 := ()
def tw1761673957781494130 := ()
def tw15097699554917693680 := ()
def tw3340794109544658565 := ()
def tw6502610495101044684 := ()
def tw14832442239241807532 := ()
def tw9611094303531224716 := ()
def tw10950710918894063319 := ()
def tw17308946145775517788 := ()
def tw4800408608587024024 := ()
def tw6207944110959248043 := ()
def tw14436346908491659480 := ()
def tw2604150147116806788 := ()
def tw12949822368724099127 := ()
def tw8171670795893016225 := ()
def tw12708892125221643805 := ()
def tw13444315899664121397 := ()
def tw6360974708398000004 := ()
def tw14654130435159356145 := ()
def tw4868878488522171107 := ()
def tw8873714448961692052 := ()
def tw16892834957219981746 := ()
def tw1421056769675068947 := ()
def tw2764989272622668391 := ()
def tw15298750653259641410 := ()
def tw6182082837337416667 := ()
def tw12220042194738596217 := ()
end PySem.W.Fast
open PySem PySem.W PyProof.Rows
set_option maxRecDepth 100000 in
set_option maxHeartbeats 0 in
theorem PySem.Challenge.cw_cabinsgiven_s01_answers_holds : PySem.Challenge.rw_cabinsgiven_s01_answers.Holds := by
  w_on; k_headS; (case hw => exact ⟨[.list [.int 0]], by decide +kernel, by decide +kernel⟩)
  k_fillS
  refine Cg.walk_specT (r := PySem.Challenge.rw_cabinsgiven_s01_answers) (k := 22) (CX := L2.CX0) (ps := ["calls"]) (sp := Cg.spAnswers) (by decide +kernel) rfl rfl ⟨rfl, by decide, by decide⟩ (fun w h Y => PySem.W.kIn_of Y) ?F ?S (fun _ _ _ _ z => z)
  case F =>
    intro w mg fa h Y KX G tab hmg
    refine' Cg.all_mk KX G hmg tab ?A ?a7 ?l7 ?c7 ?k7 ?lc7 ?lv7 ?h7 ?n7 ?r7
    (case a7 => k_is); (case l7 => k_is); (case c7 => k_is); (case k7 => k_is)
    (case lc7 => k_is); (case lv7 => exact rfl); (case h7 => first | k_is | kernel_rfl); (case n7 => first | k_is | kernel_rfl); (case r7 => exact rfl)
    case A =>
      refine' Cg.AllIn.mk ?kCabin ?kParty ?kShip ?kBook ?nCabin_deck ?nCabin_place ?nCabin_rank ?nCabin_berths ?nCabin_flat ?nCabin_out ?nParty_many ?nParty_rank ?nParty_flat ?nParty_cabin ?nParty_gone ?nShip_cabins ?nShip_parties ?nBook_ship ?nBook_earlier ?nBook_later ?d_copy_of_cabin ?d_copy_of_party ?d_copy_of_ship ?d_most_housed ?d_find_cabin ?d_others ?d_without_cabin ?d_best_cabin ?d_planned_cabins ?d_wish_of ?d_wishes_of ?d_most_of ?d_plan_of ?d_add_cabin ?d_add_party ?d_give_cabin ?d_leave_ship ?d_shut_cabin ?d_move_party ?d_swap_parties ?d_take_plan ?d_pay_class ?d_bits_of ?d_told_cabin ?d_tell_does ?d_tell_most ?d_tell_plan ?d_tell_would ?d_tell_choices ?d_tell_beside ?d_tell_who ?d_tell_look ?d_tell_see ?d_tell_frees ?d_tell_better ?d_tell_sums ?d_tell_state ?d_answers ?d_answer_call ?d_answer_change ?d_change_ship ?d_ask_of_housing ?d_ask_of_one ?d_ask_of_all ?d_answer_by_book ?m_cInit ?m_pInit ?m_sInit ?m_has_cabin ?m_has_party ?m_is_at ?m_is_beside ?m_holder_of ?m_is_free ?m_all_cabins ?m_free_among ?m_free_cabins ?m_waits ?m_waiting_parties ?m_housed_parties ?m_is_better ?m_does ?m_bInit ?m_start_anew ?m_enter_change ?m_take_back ?m_do_again ?c_NOT_THERE ?c_NOBODY ?c_NOT_FREE ?c_ALREADY_SO ?c_NOT_AS_TOLD ?c_NO_MORE ?c_DOES_NOT_DO ?c_MOST_TAKEN_BACK ?c_MOST_CABINS ?c_MOST_PARTIES ?c_LAST_DECK ?c_LAST_PLACE ?c_BEST_CLASS ?c_MOST_BERTHS ?c_PLAN_LENGTH ?c_CG_START ?c_CG_CABIN ?c_CG_PARTY ?c_CG_GIVE ?c_CG_LEAVE ?c_CG_SHUT ?c_CG_MOVE ?c_CG_SWAP ?c_CG_TAKE ?c_CG_PAY ?c_CG_DOES ?c_CG_MOST ?c_CG_PLAN ?c_CG_WOULD ?c_CG_CHOICES ?c_CG_BESIDE ?c_CG_WHO ?c_CG_LOOK ?c_CG_SEE ?c_CG_FREES ?c_CG_BETTER ?c_CG_SUMS ?c_CG_BACK ?c_CG_AGAIN ?b_len ?b_range ?b_list ?b_abs ?b_sum ?b_sorted ?b_zip ?handed
      case kCabin => refine' Cg.HasCls.mk ?ns ?pg ?hd ?po ?sa ?mk ?kc; (case ns => k_is); (case pg => k_is); (case hd => k_is); (case po => k_is); (case sa => k_is); (case mk => k_is); (case kc => k_is)
      case kParty => refine' Cg.HasCls.mk ?ns ?pg ?hd ?po ?sa ?mk ?kc; (case ns => k_is); (case pg => k_is); (case hd => k_is); (case po => k_is); (case sa => k_is); (case mk => k_is); (case kc => k_is)
      case kShip => refine' Cg.HasCls.mk ?ns ?pg ?hd ?po ?sa ?mk ?kc; (case ns => k_is); (case pg => k_is); (case hd => k_is); (case po => k_is); (case sa => k_is); (case mk => k_is); (case kc => k_is)
      case kBook => refine' Cg.HasCls.mk ?ns ?pg ?hd ?po ?sa ?mk ?kc; (case ns => k_is); (case pg => k_is); (case hd => k_is); (case po => k_is); (case sa => k_is); (case mk => k_is); (case kc => k_is)
      case nCabin_deck => (unfold L2.NoAttr; k_is)
      case nCabin_place => (unfold L2.NoAttr; k_is)
      case nCabin_rank => (unfold L2.NoAttr; k_is)
      case nCabin_berths => (unfold L2.NoAttr; k_is)
      case nCabin_flat => (unfold L2.NoAttr; k_is)
      case nCabin_out => (unfold L2.NoAttr; k_is)
      case nParty_many => (unfold L2.NoAttr; k_is)
      case nParty_rank => (unfold L2.NoAttr; k_is)
      case nParty_flat => (unfold L2.NoAttr; k_is)
      case nParty_cabin => (unfold L2.NoAttr; k_is)
      case nParty_gone => (unfold L2.NoAttr; k_is)
      case nShip_cabins => (unfold L2.NoAttr; k_is)
      case nShip_parties => (unfold L2.NoAttr; k_is)
      case nBook_ship => (unfold L2.NoAttr; k_is)
      case nBook_earlier => (unfold L2.NoAttr; k_is)
      case nBook_later => (unfold L2.NoAttr; k_is)
      case d_copy_of_cabin => (unfold Cg.HasDef; refine' ⟨_, _, ?a, L2.fun_mk ?l ?c ?k⟩; (case a => k_is); (case l => k_is); (case c => k_is); (case k => k_is))
      case d_copy_of_party => (unfold Cg.HasDef; refine' ⟨_, _, ?a, L2.fun_mk ?l ?c ?k⟩; (case a => k_is); (case l => k_is); (case c => k_is); (case k => k_is))
      case d_copy_of_ship => (unfold Cg.HasDef; refine' ⟨_, _, ?a, L2.fun_mk ?l ?c ?k⟩; (case a => k_is); (case l => k_is); (case c => k_is); (case k => k_is))
      case d_most_housed => (unfold Cg.HasDef; refine' ⟨_, _, ?a, L2.fun_mk ?l ?c ?k⟩; (case a => k_is); (case l => k_is); (case c => k_is); (case k => k_is))
      case d_find_cabin => (unfold Cg.HasDef; refine' ⟨_, _, ?a, L2.fun_mk ?l ?c ?k⟩; (case a => k_is); (case l => k_is); (case c => k_is); (case k => k_is))
      case d_others => (unfold Cg.HasDef; refine' ⟨_, _, ?a, L2.fun_mk ?l ?c ?k⟩; (case a => k_is); (case l => k_is); (case c => k_is); (case k => k_is))
      case d_without_cabin => (unfold Cg.HasDef; refine' ⟨_, _, ?a, L2.fun_mk ?l ?c ?k⟩; (case a => k_is); (case l => k_is); (case c => k_is); (case k => k_is))
      case d_best_cabin => (unfold Cg.HasDef; refine' ⟨_, _, ?a, L2.fun_mk ?l ?c ?k⟩; (case a => k_is); (case l => k_is); (case c => k_is); (case k => k_is))
      case d_planned_cabins => (unfold Cg.HasDef; refine' ⟨_, _, ?a, L2.fun_mk ?l ?c ?k⟩; (case a => k_is); (case l => k_is); (case c => k_is); (case k => k_is))
      case d_wish_of => (unfold Cg.HasDef; refine' ⟨_, _, ?a, L2.fun_mk ?l ?c ?k⟩; (case a => k_is); (case l => k_is); (case c => k_is); (case k => k_is))
      case d_wishes_of => (unfold Cg.HasDef; refine' ⟨_, _, ?a, L2.fun_mk ?l ?c ?k⟩; (case a => k_is); (case l => k_is); (case c => k_is); (case k => k_is))
      case d_most_of => (unfold Cg.HasDef; refine' ⟨_, _, ?a, L2.fun_mk ?l ?c ?k⟩; (case a => k_is); (case l => k_is); (case c => k_is); (case k => k_is))
      case d_plan_of => (unfold Cg.HasDef; refine' ⟨_, _, ?a, L2.fun_mk ?l ?c ?k⟩; (case a => k_is); (case l => k_is); (case c => k_is); (case k => k_is))
      case d_add_cabin => (unfold Cg.HasDef; refine' ⟨_, _, ?a, L2.fun_mk ?l ?c ?k⟩; (case a => k_is); (case l => k_is); (case c => k_is); (case k => k_is))
      case d_add_party => (unfold Cg.HasDef; refine' ⟨_, _, ?a, L2.fun_mk ?l ?c ?k⟩; (case a => k_is); (case l => k_is); (case c => k_is); (case k => k_is))
      case d_give_cabin => (unfold Cg.HasDef; refine' ⟨_, _, ?a, L2.fun_mk ?l ?c ?k⟩; (case a => k_is); (case l => k_is); (case c => k_is); (case k => k_is))
      case d_leave_ship => (unfold Cg.HasDef; refine' ⟨_, _, ?a, L2.fun_mk ?l ?c ?k⟩; (case a => k_is); (case l => k_is); (case c => k_is); (case k => k_is))
      case d_shut_cabin => (unfold Cg.HasDef; refine' ⟨_, _, ?a, L2.fun_mk ?l ?c ?k⟩; (case a => k_is); (case l => k_is); (case c => k_is); (case k => k_is))
      case d_move_party => (unfold Cg.HasDef; refine' ⟨_, _, ?a, L2.fun_mk ?l ?c ?k⟩; (case a => k_is); (case l => k_is); (case c => k_is); (case k => k_is))
      case d_swap_parties => (unfold Cg.HasDef; refine' ⟨_, _, ?a, L2.fun_mk ?l ?c ?k⟩; (case a => k_is); (case l => k_is); (case c => k_is); (case k => k_is))
      case d_take_plan => (unfold Cg.HasDef; refine' ⟨_, _, ?a, L2.fun_mk ?l ?c ?k⟩; (case a => k_is); (case l => k_is); (case c => k_is); (case k => k_is))
      case d_pay_class => (unfold Cg.HasDef; refine' ⟨_, _, ?a, L2.fun_mk ?l ?c ?k⟩; (case a => k_is); (case l => k_is); (case c => k_is); (case k => k_is))
      case d_bits_of => (unfold Cg.HasDef; refine' ⟨_, _, ?a, L2.fun_mk ?l ?c ?k⟩; (case a => k_is); (case l => k_is); (case c => k_is); (case k => k_is))
      case d_told_cabin => (unfold Cg.HasDef; refine' ⟨_, _, ?a, L2.fun_mk ?l ?c ?k⟩; (case a => k_is); (case l => k_is); (case c => k_is); (case k => k_is))
      case d_tell_does => (unfold Cg.HasDef; refine' ⟨_, _, ?a, L2.fun_mk ?l ?c ?k⟩; (case a => k_is); (case l => k_is); (case c => k_is); (case k => k_is))
      case d_tell_most => (unfold Cg.HasDef; refine' ⟨_, _, ?a, L2.fun_mk ?l ?c ?k⟩; (case a => k_is); (case l => k_is); (case c => k_is); (case k => k_is))
      case d_tell_plan => (unfold Cg.HasDef; refine' ⟨_, _, ?a, L2.fun_mk ?l ?c ?k⟩; (case a => k_is); (case l => k_is); (case c => k_is); (case k => k_is))
      case d_tell_would => (unfold Cg.HasDef; refine' ⟨_, _, ?a, L2.fun_mk ?l ?c ?k⟩; (case a => k_is); (case l => k_is); (case c => k_is); (case k => k_is))
      case d_tell_choices => (unfold Cg.HasDef; refine' ⟨_, _, ?a, L2.fun_mk ?l ?c ?k⟩; (case a => k_is); (case l => k_is); (case c => k_is); (case k => k_is))
      case d_tell_beside => (unfold Cg.HasDef; refine' ⟨_, _, ?a, L2.fun_mk ?l ?c ?k⟩; (case a => k_is); (case l => k_is); (case c => k_is); (case k => k_is))
      case d_tell_who => (unfold Cg.HasDef; refine' ⟨_, _, ?a, L2.fun_mk ?l ?c ?k⟩; (case a => k_is); (case l => k_is); (case c => k_is); (case k => k_is))
      case d_tell_look => (unfold Cg.HasDef; refine' ⟨_, _, ?a, L2.fun_mk ?l ?c ?k⟩; (case a => k_is); (case l => k_is); (case c => k_is); (case k => k_is))
      case d_tell_see => (unfold Cg.HasDef; refine' ⟨_, _, ?a, L2.fun_mk ?l ?c ?k⟩; (case a => k_is); (case l => k_is); (case c => k_is); (case k => k_is))
      case d_tell_frees => (unfold Cg.HasDef; refine' ⟨_, _, ?a, L2.fun_mk ?l ?c ?k⟩; (case a => k_is); (case l => k_is); (case c => k_is); (case k => k_is))
      case d_tell_better => (unfold Cg.HasDef; refine' ⟨_, _, ?a, L2.fun_mk ?l ?c ?k⟩; (case a => k_is); (case l => k_is); (case c => k_is); (case k => k_is))
      case d_tell_sums => (unfold Cg.HasDef; refine' ⟨_, _, ?a, L2.fun_mk ?l ?c ?k⟩; (case a => k_is); (case l => k_is); (case c => k_is); (case k => k_is))
      case d_tell_state => (unfold Cg.HasDef; refine' ⟨_, _, ?a, L2.fun_mk ?l ?c ?k⟩; (case a => k_is); (case l => k_is); (case c => k_is); (case k => k_is))
      case d_answers => (unfold Cg.HasDef; refine' ⟨_, _, ?a, L2.fun_mk ?l ?c ?k⟩; (case a => k_is); (case l => k_is); (case c => k_is); (case k => k_is))
      case d_answer_call => (unfold Cg.HasDef; refine' ⟨_, _, ?a, L2.fun_mk ?l ?c ?k⟩; (case a => k_is); (case l => k_is); (case c => k_is); (case k => k_is))
      case d_answer_change => (unfold Cg.HasDef; refine' ⟨_, _, ?a, L2.fun_mk ?l ?c ?k⟩; (case a => k_is); (case l => k_is); (case c => k_is); (case k => k_is))
      case d_change_ship => (unfold Cg.HasDef; refine' ⟨_, _, ?a, L2.fun_mk ?l ?c ?k⟩; (case a => k_is); (case l => k_is); (case c => k_is); (case k => k_is))
      case d_ask_of_housing => (unfold Cg.HasDef; refine' ⟨_, _, ?a, L2.fun_mk ?l ?c ?k⟩; (case a => k_is); (case l => k_is); (case c => k_is); (case k => k_is))
      case d_ask_of_one => (unfold Cg.HasDef; refine' ⟨_, _, ?a, L2.fun_mk ?l ?c ?k⟩; (case a => k_is); (case l => k_is); (case c => k_is); (case k => k_is))
      case d_ask_of_all => (unfold Cg.HasDef; refine' ⟨_, _, ?a, L2.fun_mk ?l ?c ?k⟩; (case a => k_is); (case l => k_is); (case c => k_is); (case k => k_is))
      case d_answer_by_book => (unfold Cg.HasDef; refine' ⟨_, _, ?a, L2.fun_mk ?l ?c ?k⟩; (case a => k_is); (case l => k_is); (case c => k_is); (case k => k_is))
      case m_cInit => (unfold Cg.HasMeth; refine' ⟨_, _, ⟨?a, ?i, ?kk⟩, L2.fun_mk ?l ?c ?k⟩; (case a => k_is); (case i => k_is); (case kk => k_is); (case l => k_is); (case c => k_is); (case k => k_is))
      case m_pInit => (unfold Cg.HasMeth; refine' ⟨_, _, ⟨?a, ?i, ?kk⟩, L2.fun_mk ?l ?c ?k⟩; (case a => k_is); (case i => k_is); (case kk => k_is); (case l => k_is); (case c => k_is); (case k => k_is))
      case m_sInit => (unfold Cg.HasMeth; refine' ⟨_, _, ⟨?a, ?i, ?kk⟩, L2.fun_mk ?l ?c ?k⟩; (case a => k_is); (case i => k_is); (case kk => k_is); (case l => k_is); (case c => k_is); (case k => k_is))
      case m_has_cabin => (unfold Cg.HasMeth; refine' ⟨_, _, ⟨?a, ?i, ?kk⟩, L2.fun_mk ?l ?c ?k⟩; (case a => k_is); (case i => k_is); (case kk => k_is); (case l => k_is); (case c => k_is); (case k => k_is))
      case m_has_party => (unfold Cg.HasMeth; refine' ⟨_, _, ⟨?a, ?i, ?kk⟩, L2.fun_mk ?l ?c ?k⟩; (case a => k_is); (case i => k_is); (case kk => k_is); (case l => k_is); (case c => k_is); (case k => k_is))
      case m_is_at => (unfold Cg.HasMeth; refine' ⟨_, _, ⟨?a, ?i, ?kk⟩, L2.fun_mk ?l ?c ?k⟩; (case a => k_is); (case i => k_is); (case kk => k_is); (case l => k_is); (case c => k_is); (case k => k_is))
      case m_is_beside => (unfold Cg.HasMeth; refine' ⟨_, _, ⟨?a, ?i, ?kk⟩, L2.fun_mk ?l ?c ?k⟩; (case a => k_is); (case i => k_is); (case kk => k_is); (case l => k_is); (case c => k_is); (case k => k_is))
      case m_holder_of => (unfold Cg.HasMeth; refine' ⟨_, _, ⟨?a, ?i, ?kk⟩, L2.fun_mk ?l ?c ?k⟩; (case a => k_is); (case i => k_is); (case kk => k_is); (case l => k_is); (case c => k_is); (case k => k_is))
      case m_is_free => (unfold Cg.HasMeth; refine' ⟨_, _, ⟨?a, ?i, ?kk⟩, L2.fun_mk ?l ?c ?k⟩; (case a => k_is); (case i => k_is); (case kk => k_is); (case l => k_is); (case c => k_is); (case k => k_is))
      case m_all_cabins => (unfold Cg.HasMeth; refine' ⟨_, _, ⟨?a, ?i, ?kk⟩, L2.fun_mk ?l ?c ?k⟩; (case a => k_is); (case i => k_is); (case kk => k_is); (case l => k_is); (case c => k_is); (case k => k_is))
      case m_free_among => (unfold Cg.HasMeth; refine' ⟨_, _, ⟨?a, ?i, ?kk⟩, L2.fun_mk ?l ?c ?k⟩; (case a => k_is); (case i => k_is); (case kk => k_is); (case l => k_is); (case c => k_is); (case k => k_is))
      case m_free_cabins => (unfold Cg.HasMeth; refine' ⟨_, _, ⟨?a, ?i, ?kk⟩, L2.fun_mk ?l ?c ?k⟩; (case a => k_is); (case i => k_is); (case kk => k_is); (case l => k_is); (case c => k_is); (case k => k_is))
      case m_waits => (unfold Cg.HasMeth; refine' ⟨_, _, ⟨?a, ?i, ?kk⟩, L2.fun_mk ?l ?c ?k⟩; (case a => k_is); (case i => k_is); (case kk => k_is); (case l => k_is); (case c => k_is); (case k => k_is))
      case m_waiting_parties => (unfold Cg.HasMeth; refine' ⟨_, _, ⟨?a, ?i, ?kk⟩, L2.fun_mk ?l ?c ?k⟩; (case a => k_is); (case i => k_is); (case kk => k_is); (case l => k_is); (case c => k_is); (case k => k_is))
      case m_housed_parties => (unfold Cg.HasMeth; refine' ⟨_, _, ⟨?a, ?i, ?kk⟩, L2.fun_mk ?l ?c ?k⟩; (case a => k_is); (case i => k_is); (case kk => k_is); (case l => k_is); (case c => k_is); (case k => k_is))
      case m_is_better => (unfold Cg.HasMeth; refine' ⟨_, _, ⟨?a, ?i, ?kk⟩, L2.fun_mk ?l ?c ?k⟩; (case a => k_is); (case i => k_is); (case kk => k_is); (case l => k_is); (case c => k_is); (case k => k_is))
      case m_does => (unfold Cg.HasMeth; refine' ⟨_, _, ⟨?a, ?i, ?kk⟩, L2.fun_mk ?l ?c ?k⟩; (case a => k_is); (case i => k_is); (case kk => k_is); (case l => k_is); (case c => k_is); (case k => k_is))
      case m_bInit => (unfold Cg.HasMeth; refine' ⟨_, _, ⟨?a, ?i, ?kk⟩, L2.fun_mk ?l ?c ?k⟩; (case a => k_is); (case i => k_is); (case kk => k_is); (case l => k_is); (case c => k_is); (case k => k_is))
      case m_start_anew => (unfold Cg.HasMeth; refine' ⟨_, _, ⟨?a, ?i, ?kk⟩, L2.fun_mk ?l ?c ?k⟩; (case a => k_is); (case i => k_is); (case kk => k_is); (case l => k_is); (case c => k_is); (case k => k_is))
      case m_enter_change => (unfold Cg.HasMeth; refine' ⟨_, _, ⟨?a, ?i, ?kk⟩, L2.fun_mk ?l ?c ?k⟩; (case a => k_is); (case i => k_is); (case kk => k_is); (case l => k_is); (case c => k_is); (case k => k_is))
      case m_take_back => (unfold Cg.HasMeth; refine' ⟨_, _, ⟨?a, ?i, ?kk⟩, L2.fun_mk ?l ?c ?k⟩; (case a => k_is); (case i => k_is); (case kk => k_is); (case l => k_is); (case c => k_is); (case k => k_is))
      case m_do_again => (unfold Cg.HasMeth; refine' ⟨_, _, ⟨?a, ?i, ?kk⟩, L2.fun_mk ?l ?c ?k⟩; (case a => k_is); (case i => k_is); (case kk => k_is); (case l => k_is); (case c => k_is); (case k => k_is))
      case c_NOT_THERE => (refine' Cg.HasCn.of ?a; (case a => k_is))
      case c_NOBODY => (refine' Cg.HasCn.of ?a; (case a => k_is))
      case c_NOT_FREE => (refine' Cg.HasCn.of ?a; (case a => k_is))
      case c_ALREADY_SO => (refine' Cg.HasCn.of ?a; (case a => k_is))
      case c_NOT_AS_TOLD => (refine' Cg.HasCn.of ?a; (case a => k_is))
      case c_NO_MORE => (refine' Cg.HasCn.of ?a; (case a => k_is))
      case c_DOES_NOT_DO => (refine' Cg.HasCn.of ?a; (case a => k_is))
      case c_MOST_TAKEN_BACK => (refine' Cg.HasCn.of ?a; (case a => k_is))
      case c_MOST_CABINS => (refine' Cg.HasCn.of ?a; (case a => k_is))
      case c_MOST_PARTIES => (refine' Cg.HasCn.of ?a; (case a => k_is))
      case c_LAST_DECK => (refine' Cg.HasCn.of ?a; (case a => k_is))
      case c_LAST_PLACE => (refine' Cg.HasCn.of ?a; (case a => k_is))
      case c_BEST_CLASS => (refine' Cg.HasCn.of ?a; (case a => k_is))
      case c_MOST_BERTHS => (refine' Cg.HasCn.of ?a; (case a => k_is))
      case c_PLAN_LENGTH => (refine' Cg.HasCn.of ?a; (case a => k_is))
      case c_CG_START => (refine' Cg.HasCn.of ?a; (case a => k_is))
      case c_CG_CABIN => (refine' Cg.HasCn.of ?a; (case a => k_is))
      case c_CG_PARTY => (refine' Cg.HasCn.of ?a; (case a => k_is))
      case c_CG_GIVE => (refine' Cg.HasCn.of ?a; (case a => k_is))
      case c_CG_LEAVE => (refine' Cg.HasCn.of ?a; (case a => k_is))
      case c_CG_SHUT => (refine' Cg.HasCn.of ?a; (case a => k_is))
      case c_CG_MOVE => (refine' Cg.HasCn.of ?a; (case a => k_is))
      case c_CG_SWAP => (refine' Cg.HasCn.of ?a; (case a => k_is))
      case c_CG_TAKE => (refine' Cg.HasCn.of ?a; (case a => k_is))
      case c_CG_PAY => (refine' Cg.HasCn.of ?a; (case a => k_is))
      case c_CG_DOES => (refine' Cg.HasCn.of ?a; (case a => k_is))
      case c_CG_MOST => (refine' Cg.HasCn.of ?a; (case a => k_is))
      case c_CG_PLAN => (refine' Cg.HasCn.of ?a; (case a => k_is))
      case c_CG_WOULD => (refine' Cg.HasCn.of ?a; (case a => k_is))
      case c_CG_CHOICES => (refine' Cg.HasCn.of ?a; (case a => k_is))
      case c_CG_BESIDE => (refine' Cg.HasCn.of ?a; (case a => k_is))
      case c_CG_WHO => (refine' Cg.HasCn.of ?a; (case a => k_is))
      case c_CG_LOOK => (refine' Cg.HasCn.of ?a; (case a => k_is))
      case c_CG_SEE => (refine' Cg.HasCn.of ?a; (case a => k_is))
      case c_CG_FREES => (refine' Cg.HasCn.of ?a; (case a => k_is))
      case c_CG_BETTER => (refine' Cg.HasCn.of ?a; (case a => k_is))
      case c_CG_SUMS => (refine' Cg.HasCn.of ?a; (case a => k_is))
      case c_CG_BACK => (refine' Cg.HasCn.of ?a; (case a => k_is))
      case c_CG_AGAIN => (refine' Cg.HasCn.of ?a; (case a => k_is))
      case b_len => k_is
      case b_range => k_is
      case b_list => k_is
      case b_abs => k_is
      case b_sum => k_is
      case b_sorted => k_is
      case b_zip => k_is
      case handed => (refine' Cg.HasHanded.of ?a ?l ?c ?d ?s ?v; (case a => k_is); (case l => k_is); (case c => exact rfl); (case d => exact rfl); (case s => exact of_decide_eq_true rfl); (case v => exact .cons ⟨_, rfl⟩ (.cons ⟨_, rfl⟩ (.cons ⟨_, rfl⟩ (.cons ⟨_, rfl⟩ (.cons ⟨_, rfl⟩ (.cons ⟨_, rfl⟩ (.cons ⟨_, rfl⟩ (.cons ⟨_, rfl⟩ (.cons ⟨_, rfl⟩ (.cons ⟨_, rfl⟩ (.cons ⟨_, rfl⟩ (.cons ⟨_, rfl⟩ (.cons ⟨_, rfl⟩ (.cons ⟨_, rfl⟩ (.cons ⟨_, rfl⟩ (.cons ⟨_, rfl⟩ (.cons ⟨_, rfl⟩ (.cons ⟨_, rfl⟩ (.cons ⟨_, rfl⟩ (.cons ⟨_, rfl⟩ (.cons ⟨_, rfl⟩ (.cons ⟨_, rfl⟩ (.cons ⟨_, rfl⟩ (.cons ⟨_, rfl⟩ (.cons ⟨_, rfl⟩ (.nil)))))))))))))))))))))))))))
  case S =>
    intro K Pt H xs a hO hwi hask hx
    cases hx with
    | cons h1 h2 =>
      cases h2
      cases h1 with
      | lst hs ha =>
        have e := L2.ints_dw a.1 _ ha
        subst e
        have q : ((Codec.inLen 0 8000 a.1 && a.1.all (Codec.inInt 0 4294967295)) && true) = true := hwi
        rw [Bool.and_eq_true, Bool.and_eq_true] at q
        refine ⟨_, a.1, rfl, hs, hO, hask, (Codec.inNat_iff.mp q.1.1).2, fun v hv => ?_, fun H' p hp => .lst (L2.SqL.of hp) (L2.dw_ints _)⟩
        have hb := List.all_eq_true.mp q.1.2 v hv
        exact (Codec.inInt_iff.mp hb).1

end
