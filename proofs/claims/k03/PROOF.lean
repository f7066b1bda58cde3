import PyProof.Rows.All
import Wide.All
import OpenK.AllK
import Wide.FinOn
import PyProof.EqAt
import PyProof.EqKinds
import PyProof.TupleCall
import KE.BitLaws
import PyProof.ListMulRoad
import PyProof.NsDelKeeps
import KE.KSortTupUse
import PyProof.SetKind
import KE.KDictList
import PySem.Challenge.RW_likenest_k03_parts_inner_terms_depth_ord
set_option Elab.async false
set_option linter.all false
set_option maxRecDepth 100000
/-! THE HAND LAYER, for ints, bools, texts, own classes, lists, tuples, dicts, comprehensions, walks over dicts, enumerate, zip, reversed, texts, calls, loops. Paste it whole ahead of your own text; what your proof does not reach may be deleted. -/
namespace L2
open PySem PySem.Spec PyProof.Rows

/-- a key: an int or a str -/
abbrev Key := Sum Int Str
def keyIs : Key → Value → Bool
  | .inl k, v => Value.isInt k v
  | .inr x, v => Value.isStrOf x v
def keyH (w : World) : Key → Int
  | .inl k => hashInt k
  | .inr x => hashStr w x
theorem keyIs_shape : ∀ {k : Key} {v : Value}, keyIs k v = true → (∃ i t, k = Sum.inl i ∧ v = Value.int i t) ∨ (∃ x t, k = Sum.inr x ∧ v = Value.str x t)
  | .inl i, v, h => by
    obtain ⟨t, e⟩ := Value.isInt_shape (k := i) (v := v) h
    exact .inl ⟨i, t, rfl, e⟩
  | .inr x, v, h => by
    obtain ⟨t, e⟩ := Value.isStrOf_shape (x := x) (v := v) h
    exact .inr ⟨x, t, rfl, e⟩
theorem keyIs_int (i : Int) (t : Tok) : keyIs (.inl i) (.int i t) = true := by simp [keyIs, Value.isInt]
theorem keyIs_str (x : Str) (t : Tok) : keyIs (.inr x) (.str x t) = true := by simp [keyIs, Value.isStrOf]
theorem key_ll (a b : Int) : decide ((Sum.inl a : Key) = Sum.inl b) = (a == b) := by
  by_cases e : a = b
  · subst e; simp
  · have h : ¬ (Sum.inl a : Key) = Sum.inl b := fun q => e (Sum.inl.inj q)
    rw [decide_eq_false h]
    exact (beq_eq_false_iff_ne.mpr e).symm
theorem key_rr (a b : Str) : decide ((Sum.inr a : Key) = Sum.inr b) = decide (a = b) := by
  by_cases e : a = b
  · subst e; simp
  · have h : ¬ (Sum.inr a : Key) = Sum.inr b := fun q => e (Sum.inr.inj q)
    rw [decide_eq_false h, decide_eq_false e]
theorem key_lr (a : Int) (b : Str) : decide ((Sum.inl a : Key) = Sum.inr b) = false := decide_eq_false (fun q => nomatch q)
theorem key_rl (a : Str) (b : Int) : decide ((Sum.inr a : Key) = Sum.inl b) = false := decide_eq_false (fun q => nomatch q)

def mixKind (prog : Program) (w : World) : PySem.KeyKind prog w Key where
  is := keyIs
  hash := keyH w
  inj := fun v a b ha hb => by
    rcases keyIs_shape ha with ⟨i, t, rfl, rfl⟩ | ⟨x, t, rfl, rfl⟩
    · rcases keyIs_shape hb with ⟨j, u, rfl, e⟩ | ⟨y, u, rfl, e⟩
      · injection e with e1 _; rw [e1]
      · exact nomatch e
    · rcases keyIs_shape hb with ⟨j, u, rfl, e⟩ | ⟨y, u, rfl, e⟩
      · exact nomatch e
      · injection e with e1 _; rw [e1]
  byValue := fun k v h => by
    rcases keyIs_shape h with ⟨i, t, rfl, rfl⟩ | ⟨x, t, rfl, rfl⟩ <;> rfl
  pyHash := fun hv h => by
    rcases keyIs_shape hv with ⟨i, t, rfl, rfl⟩ | ⟨x, t, rfl, rfl⟩
    · exact wpAny_pyHash_int h
    · exact wpAny_pyHash_str h
  eqBool := fun hu hv h => by
    rcases keyIs_shape hu with ⟨i, t, rfl, rfl⟩ | ⟨x, t, rfl, rfl⟩
    · rcases keyIs_shape hv with ⟨j, u, rfl, rfl⟩ | ⟨y, u, rfl, rfl⟩
      · rw [key_ll] at h; exact wpAny_eqBool_int h
      · rw [key_lr] at h; exact SeqAt.EqAt.int_str i t y u _ _ _ _ h
    · rcases keyIs_shape hv with ⟨j, u, rfl, rfl⟩ | ⟨y, u, rfl, rfl⟩
      · rw [key_rl] at h; exact SeqAt.EqAt.str_int x t j u _ _ _ _ h
      · rw [key_rr] at h; exact wpAny_eqBool_str h
  «strs» := fun k x t v h => by
    rcases keyIs_shape h with ⟨i, u, rfl, e⟩ | ⟨y, u, rfl, e⟩
    · exact nomatch e
    · injection e with e1 _
      subst e1
      cases v <;> rfl

theorem mixKind_int (prog : Program) (w : World) (i : Int) (t : Tok) : (mixKind prog w).is (.inl i) (.int i t) = true := keyIs_int i t
theorem mixKind_str (prog : Program) (w : World) (x : Str) (t : Tok) : (mixKind prog w).is (.inr x) (.str x t) = true := keyIs_str x t
end L2

namespace L2
open PySem PySem.Spec PyProof.Rows

/-- a value, without the heap -/
inductive V where
  | non | bl (b : Bool) | int (i : Int) | str (x : Str) | byt (b : Array UInt8) | flt (b : UInt64) | ref (a : Addr) | ty (n : String)
  deriving DecidableEq

def RelV : V → Value → Prop
  | .non, u => u = Value.none
  | .bl b, u => u = Value.bool b
  | .int i, u => ∃ t, u = Value.int i t
  | .str x, u => ∃ t, u = Value.str x t
  | .byt b, u => ∃ t, u = Value.bytes b t
  | .flt b, u => ∃ t, u = Value.float b t
  | .ref a, u => u = Value.ref a
  | .ty n, u => u = Value.type n

abbrev Vals : List V → List Value → Prop := Paired RelV
theorem Vals.length {xs : List V} {us : List Value} (r : Vals xs us) : xs.length = us.length := Paired.length r
theorem Vals.get : ∀ {xs : List V} {us : List Value} {i : Nat} {x : V}, Vals xs us → xs[i]? = some x → ∃ u, us[i]? = some u ∧ RelV x u
  | _, _, _, _, .nil, e => by simp at e
  | _, _, 0, _, .cons r _, e => by simp at e; subst e; exact ⟨_, rfl, r⟩
  | _, _, i + 1, x, .cons _ t, e => by
    obtain ⟨u, h1, h2⟩ := Vals.get (i := i) (x := x) t (by simpa using e)
    exact ⟨u, by simpa using h1, h2⟩
theorem Vals.set {x : V} {u : Value} (r : RelV x u) : ∀ {xs : List V} {us : List Value} (i : Nat), Vals xs us → Vals (xs.set i x) (us.set i u)
  | _, _, _, .nil => .nil
  | _, _, 0, .cons _ t => .cons r t
  | _, _, i + 1, .cons q t => .cons q (Vals.set r i t)
theorem Vals.append : ∀ {xs ys : List V} {us ws : List Value}, Vals xs us → Vals ys ws → Vals (xs ++ ys) (us ++ ws)
  | _, _, _, _, .nil, s => s
  | _, _, _, _, .cons r t, s => .cons r (Vals.append t s)
theorem Vals.take : ∀ {xs : List V} {us : List Value} (n : Nat), Vals xs us → Vals (xs.take n) (us.take n)
  | _, _, 0, _ => .nil
  | _, _, _ + 1, .nil => .nil
  | _, _, n + 1, .cons r t => .cons r (Vals.take n t)
theorem Vals.drop : ∀ {xs : List V} {us : List Value} (n : Nat), Vals xs us → Vals (xs.drop n) (us.drop n)
  | _, _, 0, r => r
  | _, _, _ + 1, .nil => .nil
  | _, _, n + 1, .cons _ t => Vals.drop n t

def RelO : Option V → Option Value → Prop
  | some v, some u => RelV v u
  | none, none => True
  | _, _ => False
def KV {κ : Type} : List (κ × V) → List (κ × Value) → Prop := Paired fun (p : κ × V) (q : κ × Value) => p.1 = q.1 ∧ RelV p.2 q.2

/-- a key of a dict (00_mix): an int or a text -/
def kV : Key → V
  | .inl i => .int i
  | .inr x => .str x

/-- what stands at a tracked address -/
inductive HO where
  /-- a list -/
  | lst (xs : List V)
  /-- a tuple (never changes) -/
  | tup (xs : List V)
  /-- a dict whose keys are ints and texts; one whose keys are tuples of ints and texts (the empty one is both) -/
  | dK (kvs : List (Key × V)) | dT (kvs : List (List Key × V))
  /-- a set of ints: its members, its size -/
  | set (S : Int → Bool) (n : Nat)
  /-- an instance of the class at C, its dict at dx, its attributes -/
  | ins (C dx : Addr) (fs : List (Str × V))
  /-- the dict of the instance at x -/
  | own (x : Addr)
  /-- the dict of an exception -/
  | xd (fs : List (Str × V))
  /-- a bound method, f of x -/
  | met (f x : Addr)
  /-- a range object lo, lo + 1, .. below hi -/
  | rng (lo hi : Int)
  /-- a thing that is known to the object (the script; a dict while a loop walks it): read, never written while it is so -/
  | frz (o : Obj) (u : HO)
  /-- a code object's table -/
  | tbl (ps : Array Value)
  /-- any other thing, by what is true of its one object (a def of one's own: SetO a S n := HO.ext fun h => ..) -/
  | ext (φ : Heap → Prop)

abbrev Hp := Addr → Option HO
def upd (H : Hp) (a : Addr) (o : HO) : Hp := fun b => if b = a then some o else H b
theorem upd_same {H : Hp} {a : Addr} {o : HO} : upd H a o a = some o := by unfold upd; rw [if_pos rfl]
theorem upd_ne {H : Hp} {a b : Addr} {o : HO} (h : b ≠ a) : upd H a o b = H b := by unfold upd; rw [if_neg h]
theorem upd_upd {H : Hp} {a : Addr} {o u : HO} : upd (upd H a o) a u = upd H a u := by
  funext b; unfold upd; split <;> rfl
/-- two objects of different content stand apart -/
theorem ne_of {H : Hp} {a b : Addr} {o u : HO} (h : H a = some o) (h' : H b = some u) (d : o ≠ u) : a ≠ b := by
  intro e; subst e; rw [h] at h'; exact d (Option.some.inj h')
theorem ne_of_none {H : Hp} {a b : Addr} {o : HO} (h : H a = some o) (h' : H b = none) : a ≠ b := by
  intro e; subst e; rw [h] at h'; cases h'

section
variable (P : Program) (w : World)
def ObjOk (H : Hp) (h : Heap) (a : Addr) : HO → Prop
  | .lst xs => xs.length ≤ sizeLine ∧ ∃ (its : List Value) (n : Nat), Vals xs its ∧ h.get? a = some { cls := .type "list", data := .seq its.toArray n }
  | .tup xs => xs.length ≤ sizeLine ∧ ∃ its : List Value, Vals xs its ∧ IsTup h a its.toArray
  | .dK kvs => kvs.length ≤ sizeLine ∧ (a == sysModules) = false ∧ ∃ vs, KV kvs vs ∧ h.DictOf (mixKind P w) a vs
  | .dT kvs => kvs.length ≤ sizeLine ∧ (a == sysModules) = false ∧ ∃ xs : List (List Key × Addr × Value),
      Paired (fun (p : List Key × V) (q : List Key × Addr × Value) => p.1 = q.1 ∧ H q.2.1 = some (.tup (p.1.map kV)) ∧ RelV p.2 q.2.2) kvs xs ∧
      ∃ o es ep, h.get? a = some o ∧ o.ExactDict ∧ o.data = .dict es ep ∧ es.toList = xs.map (entryOfKey (tupleKind (mixKind P w))) ∧ (xs.map (·.1)).Nodup
  | .set S n => h.SetOf (intKind P w) a S n
  | .ins C dx fs => H dx = some (.own a) ∧ fs.length ≤ 1000 ∧ dx ≠ a ∧ h.get? a = some (PySem.W.instObj C dx) ∧
      ∃ mA, h.Ns1 dx mA ∧ (∀ f, RelO (fs.lookup f) (mA f)) ∧ PySem.Within mA (fs.map (·.1))
  | .own _ => ∃ o, h.get? a = some o
  | .xd fs => ∃ mA, h.Ns1 a mA ∧ ∀ f, RelO (fs.lookup f) (mA f)
  | .rng lo hi => ∃ t u v, h.get? a = some { cls := .type "range", data := .fields #[.int lo t, .int hi u, .int 1 v] }
  | .frz o u => h.get? a = some o ∧ ObjOk H h a u
  | .tbl ps => h.get? a = some { cls := .none, data := .fields ps }
  | .met f x => h.get? a = some (PySem.W.methodObj (.ref f) (.ref x))
  | .ext φ => φ h ∧ (∃ o, h.get? a = some o) ∧ ∀ h1 h2 : Heap, φ h1 → (∀ o, h1.get? a = some o → h2.get? a = some o) → φ h2
/-- the abstract heap is held -/
def HOk (H : Hp) (h : Heap) : Prop := ∀ a o, H a = some o → ObjOk P w H h a o
end

section
variable {P : Program} {w : World} {H H' : Hp} {h h' : Heap} {a : Addr} {o : HO}
theorem ObjOk.lt (x : ObjOk P w H h a o) : a < h.objs.size := by
  cases o with
  | lst xs => obtain ⟨_, _, _, _, e⟩ := x; exact Heap.lt_size e
  | tup xs => obtain ⟨_, _, _, p⟩ := x; exact p.lt
  | dK kvs => obtain ⟨_, _, _, _, o, _, _, e, _⟩ := x; exact Heap.lt_size e
  | dT kvs => obtain ⟨_, _, _, _, o, _, _, e, _⟩ := x; exact Heap.lt_size e
  | set S n => obtain ⟨o, _, _, _, e, _⟩ := x; exact Heap.lt_size e
  | ins C dx fs => obtain ⟨_, _, _, e, _⟩ := x; exact Heap.lt_size e
  | own y => obtain ⟨_, e⟩ := x; exact Heap.lt_size e
  | xd fs => obtain ⟨_, ⟨_, _, _, e, _⟩, _⟩ := x; exact Heap.lt_size e
  | rng lo hi => obtain ⟨_, _, _, e⟩ := x; exact Heap.lt_size e
  | frz ob u => obtain ⟨e, _⟩ := x; exact Heap.lt_size e
  | tbl ps => exact Heap.lt_size (show h.get? a = some _ from x)
  | met f y => exact Heap.lt_size (show h.get? a = some _ from x)
  | ext φ => obtain ⟨_, ⟨_, e⟩, _⟩ := x; exact Heap.lt_size e
theorem Paired.mapP {α β : Type} {F G : α → β → Prop} : ∀ {l₁ : List α} {l₂ : List β}, Paired F l₁ l₂ → (∀ a b, F a b → G a b) → Paired G l₁ l₂
  | _, _, .nil, _ => .nil
  | _, _, .cons r t, f => .cons (f _ _ r) (Paired.mapP t f)
/-- what an object's description leans on: its own object, its own dict, the tuples -/
theorem ObjOk.stay (x : ObjOk P w H h a o) (k : ∀ b u, (b = a ∨ H b = some (.own a)) → h.get? b = some u → h'.get? b = some u)
    (ho : ∀ b, H b = some (.own a) → H' b = some (.own a)) (ht : ∀ b xs, H b = some (.tup xs) → H' b = some (.tup xs)) : ObjOk P w H' h' a o := by
  induction o with
  | lst xs => obtain ⟨z, its, n, r, e⟩ := x; exact ⟨z, its, n, r, k _ _ (.inl rfl) e⟩
  | tup xs => obtain ⟨z, its, r, ob, e, c⟩ := x; exact ⟨z, its, r, ob, k _ _ (.inl rfl) e, c⟩
  | dK kvs => obtain ⟨z, y, vs, r, ob, es, ep, e, c⟩ := x; exact ⟨z, y, vs, r, ob, es, ep, k _ _ (.inl rfl) e, c⟩
  | dT kvs =>
    obtain ⟨z, y, xs, r, ob, es, ep, e, c⟩ := x
    exact ⟨z, y, xs, Paired.mapP r fun p q z => ⟨z.1, ht _ _ z.2.1, z.2.2⟩, ob, es, ep, k _ _ (.inl rfl) e, c⟩
  | set S n => obtain ⟨ob, es, ep, t, e, c⟩ := x; exact ⟨ob, es, ep, t, k _ _ (.inl rfl) e, c⟩
  | ins C dx fs =>
    obtain ⟨d, z, ne, e, mA, ⟨od, es, ep, e2, c⟩, r⟩ := x
    exact ⟨ho _ d, z, ne, k _ _ (.inl rfl) e, mA, ⟨od, es, ep, k _ _ (.inr d) e2, c⟩, r⟩
  | own y => obtain ⟨ob, e⟩ := x; exact ⟨ob, k _ _ (.inl rfl) e⟩
  | xd fs => obtain ⟨mA, ⟨od, es, ep, e, c⟩, r⟩ := x; exact ⟨mA, ⟨od, es, ep, k _ _ (.inl rfl) e, c⟩, r⟩
  | rng lo hi => obtain ⟨t, u, v, e⟩ := x; exact ⟨t, u, v, k _ _ (.inl rfl) e⟩
  | frz ob u ih => obtain ⟨e, q⟩ := x; exact ⟨k _ _ (.inl rfl) e, ih q⟩
  | tbl ps =>
    have e : h.get? a = some { cls := .none, data := .fields ps } := x
    show h'.get? a = some { cls := .none, data := .fields ps }
    exact k a _ (.inl rfl) e
  | met f y =>
    have e : h.get? a = some (PySem.W.methodObj (.ref f) (.ref y)) := x
    show h'.get? a = some (PySem.W.methodObj (.ref f) (.ref y))
    exact k a _ (.inl rfl) e
  | ext φ => obtain ⟨p, ⟨o, e⟩, st⟩ := x; exact ⟨st _ _ p fun o q => k _ _ (.inl rfl) q, ⟨o, k _ _ (.inl rfl) e⟩, st⟩
theorem HOk.lt (x : HOk P w H h) (e : H a = some o) : a < h.objs.size := (x a o e).lt
theorem HOk.fresh (x : HOk P w H h) (e : h.objs.size ≤ a) : H a = none := by
  cases q : H a with
  | none => rfl
  | some u => exact absurd (Nat.lt_of_lt_of_le (x.lt q) e) (Nat.lt_irrefl _)
/-- every object of the heap is kept -/
theorem HOk.kept (x : HOk P w H h) (k : ∀ b u, h.get? b = some u → h'.get? b = some u) : HOk P w H h' := fun a o e =>
  (x a o e).stay (fun b u _ q => k b u q) (fun _ q => q) fun _ _ q => q
/-- a new object is laid and tracked -/
theorem HOk.laid (x : HOk P w H h) (k : ∀ b u, h.get? b = some u → h'.get? b = some u) (hp : h.objs.size ≤ a) (new : ObjOk P w (upd H a o) h' a o) : HOk P w (upd H a o) h' := fun b u e => by
  have hn := x.fresh hp
  by_cases hb : b = a
  · subst hb; rw [upd_same] at e; cases e; exact new
  · rw [upd_ne hb] at e
    exact (x b u e).stay (fun c v _ q => k c v q) (fun c q => by rw [upd_ne (ne_of_none q hn)]; exact q) fun c xs q => by rw [upd_ne (ne_of_none q hn)]; exact q
end

/-- what may be read as u: it is u, or a known u -/
def Rd (H : Hp) (a : Addr) (u : HO) : Prop := H a = some u ∨ ∃ o, H a = some (.frz o u)
theorem Rd.of {H : Hp} {a : Addr} {u : HO} (h : H a = some u) : Rd H a u := .inl h
theorem Rd.ok {P : Program} {w : World} {H : Hp} {h : Heap} {a : Addr} {u : HO} (r : Rd H a u) (x : HOk P w H h) : ObjOk P w H h a u := by
  rcases r with r | ⟨o, r⟩
  · exact x a u r
  · obtain ⟨_, q⟩ := x a _ r
    exact q
/-- what may be written -/
def Mut : Option HO → Prop
  | some (.lst _) => True
  | some (.dK _) => True
  | some (.dT _) => True
  | some (.set _ _) => True
  | some (.ins _ _ _) => True
  | some (.ext _) => True
  | _ => False
section
variable {P : Program} {w : World} {H : Hp} {h h' : Heap} {x e : Addr} {o' : HO}
/-- the object at e is changed: x itself, or the dict of the instance x -/
theorem HOk.write (ok : HOk P w H h) (mu : Mut (H x)) (he : e = x ∨ H e = some (.own x)) (k : ∀ b u, b ≠ e → h.get? b = some u → h'.get? b = some u) (heo : ∃ u, h'.get? e = some u)
    (new : ObjOk P w (upd H x o') h' x o') : HOk P w (upd H x o') h' := fun b u q => by
  have nown : ∀ c y, H c = some (.own y) → c ≠ x := fun c y r z => by subst z; rw [r] at mu; exact mu
  have ntup : ∀ c xs, H c = some (.tup xs) → c ≠ x := fun c xs r z => by subst z; rw [r] at mu; exact mu
  by_cases hb : b = x
  · subst hb; rw [upd_same] at q; cases q; exact new
  · rw [upd_ne hb] at q
    by_cases hbe : b = e
    · have q' : H b = some (.own x) := by
        rcases he with z | z
        · exact absurd (hbe.trans z) hb
        · rw [hbe]; exact z
      rw [q] at q'; cases q'
      obtain ⟨v, hv⟩ := heo
      exact ⟨v, by rw [hbe]; exact hv⟩
    · refine (ok b u q).stay (fun c v hc r => k c v ?_ r) (fun c r => by rw [upd_ne (nown c b r)]; exact r) fun c xs r => by rw [upd_ne (ntup c xs r)]; exact r
      rcases hc with rfl | hc
      · exact hbe
      · rintro rfl
        rcases he with z | z
        · exact nown c b hc z
        · rw [hc] at z; cases z; exact hb rfl
end

/-! ### kept unless tracked; of the frames at fs (the callers') the slots may change (an exception that passes writes there); of the records at ex (iterators) nothing is said -/
structure Un (fs ex : List Addr) (H H' : Hp) (h h' : Heap) : Prop where
  keep : ∀ b o, h.get? b = some o → H b = none → b ∉ fs → b ∉ ex → h'.get? b = some o
  slot : ∀ b o, h.get? b = some o → H b = none → b ∈ fs → b ∉ ex → ∃ sl, h'.get? b = some { o with slots := sl }
  free : ∀ b o, h.get? b = some o → H b = none → b ∉ ex → H' b = none
  there : ∀ b o, h.get? b = some o → b ∉ ex → ∃ o', h'.get? b = some o'
  tups : ∀ b xs, H b = some (.tup xs) → H' b = some (.tup xs)
  frzs : ∀ b o u, H b = some (.frz o u) → H' b = some (.frz o u)
  tbls : ∀ b ps, H b = some (.tbl ps) → ∃ more, H' b = some (.tbl (ps ++ more))
section
variable {fs fs' ex ex' : List Addr} {H H1 H2 : Hp} {h h1 h2 h' : Heap} {a x e : Addr} {o : HO}
theorem Un.any (u : Un fs ex H H1 h h1) {b : Addr} {ob : Obj} (q : h.get? b = some ob) (n : H b = none) (hx : b ∉ ex) : ∃ sl, h1.get? b = some { ob with slots := sl } := by
  by_cases hb : b ∈ fs
  · exact u.slot b ob q n hb hx
  · exact ⟨ob.slots, u.keep b ob q n hb hx⟩
theorem Un.trans (a : Un fs ex H H1 h h1) (b : Un fs ex H1 H2 h1 h2) : Un fs ex H H2 h h2 where
  keep := fun c ob q n hc hx => b.keep c ob (a.keep c ob q n hc hx) (a.free c ob q n hx) hc hx
  slot := fun c ob q n hc hx => by
    obtain ⟨sl, e1⟩ := a.slot c ob q n hc hx
    obtain ⟨sl', e2⟩ := b.slot c _ e1 (a.free c ob q n hx) hc hx
    exact ⟨sl', e2⟩
  free := fun c ob q n hx => by
    obtain ⟨o', e1⟩ := a.there c ob q hx
    exact b.free c o' e1 (a.free c ob q n hx) hx
  there := fun c ob q hx => by
    obtain ⟨o', e1⟩ := a.there c ob q hx
    exact b.there c o' e1 hx
  tups := fun c xs q => b.tups c xs (a.tups c xs q)
  frzs := fun c ob xs q => b.frzs c ob xs (a.frzs c ob xs q)
  tbls := fun c ps q => by
    obtain ⟨m1, e1⟩ := a.tbls c ps q
    obtain ⟨m2, e2⟩ := b.tbls c _ e1
    exact ⟨m1 ++ m2, by rw [e2, Array.append_assoc]⟩
theorem Un.kept (k : ∀ b u, h.get? b = some u → h'.get? b = some u) : Un fs ex H H h h' :=
  ⟨fun b ob q _ _ _ => k b ob q, fun b ob q _ _ _ => ⟨ob.slots, k b ob q⟩, fun _ _ _ n _ => n, fun b ob q _ => ⟨ob, k b ob q⟩, fun _ _ q => q, fun _ _ _ q => q, fun _ ps q => ⟨#[], by rw [q]; simp⟩⟩
theorem Un.refl : Un fs ex H H h h := Un.kept fun _ _ q => q
theorem Un.laid (k : ∀ b u, h.get? b = some u → h'.get? b = some u) (hp : h.objs.size ≤ a) (hn : H a = none) : Un fs ex H (upd H a o) h h' where
  keep := fun b u q _ _ _ => k b u q
  slot := fun b u q _ _ _ => ⟨u.slots, k b u q⟩
  free := fun b u q n _ => by rw [upd_ne (Nat.ne_of_lt (Nat.lt_of_lt_of_le (Heap.lt_size q) hp))]; exact n
  there := fun b u q _ => ⟨u, k b u q⟩
  tups := fun b xs q => by rw [upd_ne (ne_of_none q hn)]; exact q
  frzs := fun b u xs q => by rw [upd_ne (ne_of_none q hn)]; exact q
  tbls := fun b ps q => ⟨#[], by rw [upd_ne (ne_of_none q hn), q]; simp⟩
theorem Un.write (mu : Mut (H x)) (he : e = x ∨ H e = some (.own x)) (k : ∀ b u, b ≠ e → h.get? b = some u → h'.get? b = some u) (heo : ∃ u, h'.get? e = some u) : Un fs ex H (upd H x o) h h' := by
  have hx : ∀ b, H b = none → b ≠ x := fun b n z => by subst z; rw [n] at mu; exact mu
  have hb : ∀ b, H b = none → b ≠ e := fun b n z => by
    subst z
    rcases he with r | r
    · exact hx b n r
    · rw [n] at r; cases r
  have hm : ∀ b u, H b = some u → ¬ Mut (some u) → b ≠ x := fun b u q nm z => by subst z; rw [q] at mu; exact nm mu
  refine ⟨fun b u q n _ _ => k b u (hb b n) q, fun b u q n _ _ => ⟨u.slots, k b u (hb b n) q⟩, fun b u q n _ => by rw [upd_ne (hx b n)]; exact n, fun b u q _ => ?_,
    fun b xs q => by rw [upd_ne (hm b _ q fun z => z)]; exact q, fun b u xs q => by rw [upd_ne (hm b _ q fun z => z)]; exact q, fun b ps q => ⟨#[], by rw [upd_ne (hm b _ q fun z => z), q]; simp⟩⟩
  by_cases hbe : b = e
  · subst hbe; exact heo
  · exact ⟨u, k b u hbe q⟩
theorem Un.mono (u : Un fs ex H H1 h h1) (hs : ∀ b ∈ fs, b ∈ fs') (hx : ∀ b ∈ ex, b ∈ ex') : Un fs' ex' H H1 h h1 :=
  ⟨fun b ob q n hb he => u.keep b ob q n (fun z => hb (hs b z)) fun z => he (hx b z), fun _ _ q n _ he => u.any q n fun z => he (hx _ z), fun b ob q n he => u.free b ob q n fun z => he (hx b z), fun b ob q he => u.there b ob q fun z => he (hx b z), u.tups, u.frzs, u.tbls⟩
end

/-! ### the heap without what is tracked -/
def trk (h : Heap) (H : Hp) : List Addr := (List.range h.objs.size).filter fun a => (H a).isSome
def hidT (h : Heap) (H : Hp) : Heap := PySem.W.hideAll h (trk h H)
theorem hidT_size (h : Heap) (H : Hp) : (hidT h H).objs.size = h.objs.size := PySem.W.hideAll_size _ _
theorem hidT_get {h : Heap} {H : Hp} {b : Addr} {o : Obj} (e : h.get? b = some o) (n : H b = none) : (hidT h H).get? b = some o :=
  PySem.W.hideAll_get _ e fun hm => by
    have q : (H b).isSome = true := (List.mem_filter.mp hm).2
    rw [n] at q; simp at q
theorem of_hidT {h : Heap} {H : Hp} {b : Addr} {o : Obj} (e : (hidT h H).get? b = some o) : h.get? b = some o ∧ H b = none := by
  have e' : h.get? b = some o := PySem.W.of_hideAll (trk h H) e
  refine ⟨e', ?_⟩
  cases q : H b with
  | none => rfl
  | some x =>
    have hm : b ∈ trk h H := List.mem_filter.mpr ⟨List.mem_range.mpr (Heap.lt_size e'), by simp [q]⟩
    have z : (hidT h H).get? b = none := PySem.W.hideAll_none (trk h H) hm
    rw [z] at e; cases e

/-! ### OpenK's ledger, filled with every new object but one -/
def allNews (g h : Heap) (L : Addr) : List (Addr × Obj) := (List.range h.objs.size).filterMap fun a => if a = L ∨ (g.get? a).isSome = true then none else (h.get? a).map fun o => (a, o)
def rest (g h : Heap) (L d : Addr) : List (Addr × Obj) := (allNews g h L).filter fun p => decide (p.1 ≠ d)
end L2

namespace L2
open PySem PySem.Spec PyProof.Rows

/-- the module's facts, over the base: the heap at the law's entry without what is tracked there -/
structure Mod (K : PySem.W.Frag) (mg : Str → Option Value) (base : Heap) : Prop where
  kin : K.In base
  glob : base.Ns mainGlobals mg
  blt : ∃ mb, base.Ns builtinsNs mb ∧ ∀ x : Str, x ≠ "__name__" → mb x = bootBuiltins x
  nolimit : base.NoLimit

/-- the context: a def's body (or a comprehension's block) running. base: fixed through the whole law; s₀, H₀: the entry; outer: the frames whose slots others may change (a def's callers); stack: all frames that run;
   ex: iterators that were made ahead of the entry and are walked here (a comprehension's); fn: the names whose cells were made at the entry (a def: all; a comprehension's block: its own); calm: not within an except suite; pn: pins that every state bears; xe: what is wanted of an exception that leaves the code -/
structure Cx where
  prog : Program
  w : World
  K : PySem.W.Frag
  mg : Str → Option Value
  base : Heap
  A : Around
  N : List Str
  s_0 : Shared
  H_0 : Hp
  env : Env
  outer : List Env
  stack : List Env
  ex : List Addr
  fn : Str → Bool
  calm : Bool
  pn : List (Addr × Obj)
  xe : Value → Shared → Prop
/-- the callers' frames -/
def frs (l : List Env) : List Addr := l.filterMap (·.frame)
abbrev Cx.fs (X : Cx) : List Addr := frs X.outer

def Vis (sc : Scope) (x : Str) : Prop := sc.names.lookup x = some .local ∨ sc.names.lookup x = some .cell ∨ sc.names.lookup x = some .free
def Loc (sc : Scope) (x : Str) : Prop := sc.names.lookup x = some .local ∨ sc.names.lookup x = some .cell
def Look (env : Env) (h : Heap) (m : Str → Option Value) (x : Str) (u : Value) : Prop :=
  (env.kindOf x = some .local ∧ m x = some u) ∨ ((env.kindOf x = some .cell ∨ env.kindOf x = some .free) ∧ ∃ c, env.cells.lookup x = some c ∧ h.IsCell c (some u))

structure Cx.Ok (X : Cx) : Prop where
  mod : Mod X.K X.mg X.base
  kind : X.env.scope.kind = .function
  glob : X.env.globals = mainGlobals
  blt : X.env.builtins = builtinsNs
  above : X.s_0.heap.objs.size ≤ X.env.locals
  inj : ∀ x y c, X.env.cells.lookup x = some c → X.env.cells.lookup y = some c → x = y
  has : ∀ x, (X.env.kindOf x = some .cell ∨ X.env.kindOf x = some .free) → ∃ c, X.env.cells.lookup x = some c
  cab : ∀ x c, X.fn x = true → X.env.cells.lookup x = some c → X.s_0.heap.objs.size ≤ c
  hd : X.calm = true → X.A.handled = none
  frames : X.A.frames = some X.stack
  stk : X.stack = X.outer ∨ (X.stack = X.env :: X.outer ∧ X.env.frame = some X.env.locals)
  exf : ∀ b ∈ X.ex, b ≠ X.env.locals ∧ ∀ x c, X.env.cells.lookup x = some c → c ≠ b
  bs : ∀ b o, X.base.get? b = some o → X.s_0.heap.get? b = some o ∧ X.H_0 b = none
  bsz : X.base.objs.size ≤ X.s_0.heap.objs.size
  noex : ∀ b o, X.base.get? b = some o → b ∉ X.ex
  exfs : ∀ b ∈ X.ex, b ∉ X.fs
  funs : X.s_0.heap.FunFrames X.base X.outer
  frf : ∀ b ∈ X.fs, X.H_0 b = none

structure Inv (X : Cx) (pins : List (Addr × Obj)) (σ : List (Option V)) (H : Hp) (s : Shared) : Prop where
  ok : X.Ok
  os : s.os = X.s_0.os
  bare : AllBare s.gens
  base : Un X.fs X.ex X.H_0 H X.s_0.heap s.heap
  loc : ∃ m, s.heap.Ns X.env.locals m ∧ ∀ (i : Nat) (x : Str) (v : V), X.N[i]? = some x → σ[i]? = some (some v) → Vis X.env.scope x → ∃ u, RelV v u ∧ Look X.env s.heap m x u
  cell : ∀ x c, X.env.cells.lookup x = some c → ∃ v, s.heap.IsCell c v
  free : H X.env.locals = none
  freeC : ∀ x c, X.env.cells.lookup x = some c → H c = none
  pin : ∀ p ∈ X.pn ++ pins, s.heap.get? p.1 = some p.2 ∧ H p.1 = none ∧ p.1 ≠ X.env.locals ∧ p.1 ∉ X.fs ∧ ∀ v, p.2.data ≠ .cell v
  hok : HOk X.prog X.w H s.heap
  len : σ.length = X.N.length

section
variable {X : Cx} {pins : List (Addr × Obj)} {σ : List (Option V)} {H H' : Hp} {s : Shared} {h' : Heap}

theorem Cx.Ok.nofr (ok : X.Ok) {b : Addr} {o : Obj} (e : X.base.get? b = some o) : b ∉ X.fs := fun hb => by
  have := (ok.funs.mem hb).1
  rw [e] at this; cases this
theorem Inv.bs (I : Inv X pins σ H s) : ∀ b o, X.base.get? b = some o → s.heap.get? b = some o ∧ H b = none := fun b o e =>
  ⟨I.base.keep b o (I.ok.bs b o e).1 (I.ok.bs b o e).2 (I.ok.nofr e) (I.ok.noex b o e), I.base.free b o (I.ok.bs b o e).1 (I.ok.bs b o e).2 (I.ok.noex b o e)⟩
theorem Inv.bk (I : Inv X pins σ H s) : ∀ b o, X.base.get? b = some o → s.heap.get? b = some o := fun b o e => (I.bs b o e).1
theorem Inv.mod (I : Inv X pins σ H s) : Mod X.K X.mg X.base := I.ok.mod
theorem Inv.kIn (I : Inv X pins σ H s) : X.K.In s.heap := I.ok.mod.kin.keeps I.bk
theorem Inv.nolimit (I : Inv X pins σ H s) : s.heap.NoLimit := I.ok.mod.nolimit.keeps I.bk
/-- the frame over the base: for OpenK's rules (K.In X.base is I.mod.kin) -/
theorem Inv.fr (I : Inv X pins σ H s) : ∃ m, Fr X.base X.env.locals s.heap m :=
  let ⟨m, hn, _⟩ := I.loc
  ⟨m, hn, I.bk, Nat.le_trans I.ok.bsz I.ok.above⟩
theorem Inv.lt (I : Inv X pins σ H s) : X.env.locals < s.heap.objs.size := let ⟨_, hn, _⟩ := I.loc; hn.lt
theorem Inv.sz (I : Inv X pins σ H s) : X.s_0.heap.objs.size ≤ s.heap.objs.size := Nat.le_trans I.ok.above (Nat.le_of_lt I.lt)
theorem Inv.nofs (I : Inv X pins σ H s) {a : Addr} (h : s.heap.objs.size ≤ a) : a ∉ X.fs := fun hb => by
  obtain ⟨_, o, ho, _⟩ := I.ok.funs.mem hb
  exact absurd (Nat.lt_of_lt_of_le (Heap.lt_size ho) (Nat.le_trans I.sz h)) (Nat.lt_irrefl _)
theorem Inv.cne (I : Inv X pins σ H s) : ∀ x c, X.env.cells.lookup x = some c → c ≠ X.env.locals := fun x c e z => by
  obtain ⟨v, o, ho, hd⟩ := I.cell x c e
  obtain ⟨m, ⟨o', es, ep, ho', hd', _⟩, _⟩ := I.loc
  rw [z, ho'] at ho; cases ho; rw [hd'] at hd; cases hd
theorem Inv.funs (I : Inv X pins σ H s) : s.heap.FunFrames X.base X.outer := by
  have all : ∀ (l : List Env), (∀ b ∈ frs l, b ∈ X.fs) → X.s_0.heap.FunFrames X.base l → s.heap.FunFrames X.base l := by
    intro l
    induction l with
    | nil => intro _ _; trivial
    | cons env r ih =>
      intro hs hl
      obtain ⟨hk, ⟨L, o, hf, hn, ho, hd⟩, hr⟩ := hl
      have hL : L ∈ X.fs := hs L (by unfold frs; rw [List.filterMap_cons, hf]; exact List.mem_cons_self)
      obtain ⟨sl, e⟩ := I.base.slot L o ho (I.ok.frf L hL) hL fun z => I.ok.exfs L z hL
      exact ⟨hk, ⟨L, _, hf, hn, e, hd⟩, ih (fun b hb => hs b (by unfold frs; rw [List.filterMap_cons, hf]; exact List.mem_cons_of_mem _ hb)) hr⟩
  exact all X.outer (fun _ hb => hb) I.ok.funs

/-- the frames that run, for a call -/
theorem Inv.stack (I : Inv X pins σ H s) : s.heap.FunFrames X.base X.stack := by
  rcases I.ok.stk with e | ⟨e, hf⟩
  · rw [e]; exact I.funs
  · rw [e]
    obtain ⟨m, hn, _⟩ := I.loc
    refine .cons (by rw [I.ok.kind]; decide) hf hn ?_ I.funs
    exact Heap.get?_none_of_le (Nat.le_trans I.ok.bsz I.ok.above)
theorem Inv.stkSub (I : Inv X pins σ H s) : ∀ b ∈ frs X.stack, b ∈ X.env.locals :: X.fs := fun b hb => by
  rcases I.ok.stk with e | ⟨e, hf⟩
  · rw [e] at hb; exact List.mem_cons_of_mem _ hb
  · rw [e] at hb
    unfold frs at hb
    rw [List.filterMap_cons, hf] at hb
    exact hb
theorem Inv.stkFree (I : Inv X pins σ H s) : ∀ b ∈ frs X.stack, H b = none := fun b hb => by
  rcases List.mem_cons.mp (I.stkSub b hb) with e | hb
  · rw [e]; exact I.free
  · obtain ⟨_, o, ho, _⟩ := I.ok.funs.mem hb
    exact I.base.free b o ho (I.ok.frf b hb) fun z => I.ok.exfs b z hb

/-- THE STEP: the untracked objects but the frame and the records at ch are kept (the callers' frames up to slots), the frame's map is kept, the new abstract heap is held -/
theorem Inv.step {g' : Array GenState} {t' : Nat} {d' : Drawn} {ch : List Addr} (I : Inv X pins σ H s)
    (hch : ∀ b ∈ ch, (b ∈ X.ex ∨ X.s_0.heap.objs.size ≤ b) ∧ b ≠ X.env.locals ∧ (∀ x c, X.env.cells.lookup x = some c → c ≠ b) ∧ ∀ p ∈ X.pn ++ pins, p.1 ≠ b)
    (keep : ∀ b o, b ≠ X.env.locals → b ∉ X.fs → b ∉ ch → s.heap.get? b = some o → H b = none → h'.get? b = some o)
    (slot : ∀ b o, b ≠ X.env.locals → b ∈ X.fs → b ∉ ch → s.heap.get? b = some o → H b = none → ∃ sl, h'.get? b = some { o with slots := sl }) (free : ∀ b o, b ∉ ch → s.heap.get? b = some o → H b = none → H' b = none)
    (there : ∀ b o, b ∉ ch → s.heap.get? b = some o → ∃ o', h'.get? b = some o')
    (tups : ∀ b xs, H b = some (.tup xs) → H' b = some (.tup xs)) (frzs : ∀ b o u, H b = some (.frz o u) → H' b = some (.frz o u)) (tbls : ∀ b ps, H b = some (.tbl ps) → ∃ more, H' b = some (.tbl (ps ++ more)))
    (ns : ∀ m, s.heap.Ns X.env.locals m → h'.Ns X.env.locals m) (hok : HOk X.prog X.w H' h') (hg : AllBare g') :
    Inv X pins σ H' { s with heap := h', gens := g', drawn := d', toks := t' } := by
  have neL : ∀ b o, X.s_0.heap.get? b = some o → b ≠ X.env.locals := fun b o e => Nat.ne_of_lt (Nat.lt_of_lt_of_le (Heap.lt_size e) I.ok.above)
  have neC : ∀ b o, X.s_0.heap.get? b = some o → b ∉ X.ex → b ∉ ch := fun b o e hx hb => by
    rcases (hch b hb).1 with z | z
    · exact hx z
    · exact absurd (Nat.lt_of_lt_of_le (Heap.lt_size e) z) (Nat.lt_irrefl _)
  have cellK : ∀ x c, X.env.cells.lookup x = some c → ∀ v, s.heap.IsCell c v → h'.IsCell c v := fun x c e v ⟨o, ho, hd⟩ => by
    have nch : c ∉ ch := fun z => (hch c z).2.2.1 x c e rfl
    by_cases hc : c ∈ X.fs
    · obtain ⟨sl, q⟩ := slot c o (I.cne x c e) hc nch ho (I.freeC x c e)
      exact ⟨_, q, hd⟩
    · exact ⟨o, keep c o (I.cne x c e) hc nch ho (I.freeC x c e), hd⟩
  refine ⟨I.ok, I.os, hg, ⟨fun b o e n hb hx => ?_, fun b o e n hb hx => ?_, fun b o e n hx => ?_, fun b o e hx => ?_, fun b xs e => tups b xs (I.base.tups b xs e), fun b o xs e => frzs b o xs (I.base.frzs b o xs e), fun b ps e => ?_⟩, ?_, fun x c e => ?_, ?_, fun x c e => ?_, fun p hp => ?_, hok, I.len⟩
  · exact keep b o (neL b o e) hb (neC b o e hx) (I.base.keep b o e n hb hx) (I.base.free b o e n hx)
  · obtain ⟨sl, e1⟩ := I.base.slot b o e n hb hx
    obtain ⟨sl', e2⟩ := slot b _ (neL b o e) hb (neC b o e hx) e1 (I.base.free b o e n hx)
    exact ⟨sl', e2⟩
  · obtain ⟨o', e1⟩ := I.base.there b o e hx
    exact free b o' (neC b o e hx) e1 (I.base.free b o e n hx)
  · obtain ⟨o', e1⟩ := I.base.there b o e hx
    exact there b o' (neC b o e hx) e1
  · obtain ⟨m1, e1⟩ := I.base.tbls b ps e
    obtain ⟨m2, e2⟩ := tbls b _ e1
    exact ⟨m1 ++ m2, by rw [e2, Array.append_assoc]⟩
  · obtain ⟨m, hn, hl⟩ := I.loc
    refine ⟨m, ns m hn, fun i x v e1 e2 e3 => ?_⟩
    obtain ⟨u, r, l⟩ := hl i x v e1 e2 e3
    refine ⟨u, r, ?_⟩
    rcases l with l | ⟨k, c, e, z⟩
    · exact .inl l
    · exact .inr ⟨k, c, e, cellK x c e _ z⟩
  · obtain ⟨v, z⟩ := I.cell x c e
    exact ⟨v, cellK x c e v z⟩
  · obtain ⟨m, ⟨o, _, _, ho, _⟩, _⟩ := I.loc
    exact free _ o (fun z => (hch _ z).2.1 rfl) ho I.free
  · obtain ⟨v, o, ho, hd⟩ := I.cell x c e
    exact free c o (fun z => (hch c z).2.2.1 x c e rfl) ho (I.freeC x c e)
  · obtain ⟨e, n, ne, nf, d⟩ := I.pin p hp
    have nch : p.1 ∉ ch := fun z => (hch p.1 z).2.2.2 p hp rfl
    exact ⟨keep p.1 p.2 ne nf nch e n, free p.1 p.2 nch e n, ne, nf, d⟩
/-- .. where the frame's own object is kept too -/
theorem Inv.un {t' : Nat} (I : Inv X pins σ H s) (u : Un X.fs [] H H' s.heap h') (hok : HOk X.prog X.w H' h') : Inv X pins σ H' { s with heap := h', toks := t' } := by
  obtain ⟨m, ⟨o, es, ep, ho, r⟩, _⟩ := id I.loc
  obtain ⟨sl, hL⟩ := u.any ho I.free (by simp)
  exact I.step (g' := s.gens) (d' := s.drawn) (ch := []) (fun _ z => nomatch z) (fun b o _ hb _ e n => u.keep b o e n hb (by simp)) (fun b o _ hb _ e n => u.slot b o e n hb (by simp)) (fun b o _ e n => u.free b o e n (by simp)) (fun b o _ e => u.there b o e (by simp)) u.tups u.frzs u.tbls (fun m' hm => by
    obtain ⟨o', es', ep', ho', r'⟩ := hm
    rw [ho] at ho'; cases ho'
    exact ⟨_, es', ep', hL, r'⟩) hok I.bare
/-- behind a call (or a comprehension's block): the slots of this frame may have changed too, the records at ch may have turned -/
theorem Inv.call {g' : Array GenState} {t' : Nat} {d' : Drawn} {ch : List Addr} (I : Inv X pins σ H s) (u : Un (frs X.stack) ch H H' s.heap h') (hok : HOk X.prog X.w H' h') (hg : AllBare g')
    (hch : ∀ b ∈ ch, (b ∈ X.ex ∨ X.s_0.heap.objs.size ≤ b) ∧ b ≠ X.env.locals ∧ (∀ x c, X.env.cells.lookup x = some c → c ≠ b) ∧ ∀ p ∈ X.pn ++ pins, p.1 ≠ b) :
    Inv X pins σ H' { s with heap := h', gens := g', drawn := d', toks := t' } := by
  obtain ⟨m, ⟨o, es, ep, ho, r⟩, _⟩ := id I.loc
  obtain ⟨sl, hL⟩ := u.any ho I.free fun z => (hch _ z).2.1 rfl
  exact I.step (ch := ch) hch (fun b o hL hb hc e n => u.keep b o e n (fun z => (List.mem_cons.mp (I.stkSub b z)).elim hL hb) hc) (fun b o _ _ hc e n => u.any e n hc) (fun b o hc e n => u.free b o e n hc) (fun b o hc e => u.there b o e hc) u.tups u.frzs u.tbls (fun m' hm => by
    obtain ⟨o', es', ep', ho', r'⟩ := hm
    rw [ho] at ho'; cases ho'
    exact ⟨_, es', ep', hL, r'⟩) hok hg
/-- an untracked record of ours (an iterator) has turned -/
theorem Inv.turned {t' : Nat} {it : Addr} (I : Inv X pins σ H s) (k : ∀ b o, b ≠ it → s.heap.get? b = some o → h'.get? b = some o) (hn : H it = none) (hL : it ≠ X.env.locals)
    (h1 : it ∈ X.ex ∨ X.s_0.heap.objs.size ≤ it) (h2 : ∀ x c, X.env.cells.lookup x = some c → c ≠ it) (h3 : ∀ p ∈ X.pn ++ pins, p.1 ≠ it) : Inv X pins σ H { s with heap := h', toks := t' } := by
  have nit : ∀ b u, H b = some u → b ≠ it := fun b u e z => by rw [z, hn] at e; cases e
  refine I.step (g' := s.gens) (d' := s.drawn) (ch := [it]) (fun b hb => ?_) (fun b o _ _ hc e _ => k b o (fun z => hc (by simp [z])) e) (fun b o _ _ hc e _ => ⟨o.slots, k b o (fun z => hc (by simp [z])) e⟩) (fun _ _ _ _ n => n)
    (fun b o hc e => ⟨o, k b o (fun z => hc (by simp [z])) e⟩) (fun _ _ e => e) (fun _ _ _ e => e) (fun b ps e => ⟨#[], by rw [e]; simp⟩) (fun m hm => ?_) (fun b u e => ?_) I.bare
  · have e : b = it := by simpa using hb
    subst e
    exact ⟨h1, hL, h2, h3⟩
  · obtain ⟨o, es, ep, ho, r⟩ := hm
    exact ⟨o, es, ep, k _ o (Ne.symm hL) ho, r⟩
  · refine (I.hok b u e).stay (fun c v hc q => k c v ?_ q) (fun _ q => q) fun _ _ q => q
    rcases hc with z | z
    · rw [z]; exact nit b u e
    · exact nit c _ z
theorem Inv.tok (I : Inv X pins σ H s) (t : Nat) : Inv X pins σ H { s with toks := t } := I.un (h' := s.heap) (t' := t) Un.refl I.hok
/-- all objects kept -/
theorem Inv.kept {t' : Nat} (I : Inv X pins σ H s) (k : ∀ b u, s.heap.get? b = some u → h'.get? b = some u) : Inv X pins σ H { s with heap := h', toks := t' } := I.un (Un.kept k) (I.hok.kept k)
/-- a new object laid and tracked -/
theorem Inv.laid {a : Addr} {o : HO} {t' : Nat} (I : Inv X pins σ H s) (k : ∀ b u, s.heap.get? b = some u → h'.get? b = some u) (hp : s.heap.objs.size ≤ a) (new : ObjOk X.prog X.w (upd H a o) h' a o) :
    Inv X pins σ (upd H a o) { s with heap := h', toks := t' } := I.un (Un.laid k hp (I.hok.fresh hp)) (I.hok.laid k hp new)
/-- an object written -/
theorem Inv.write {x e : Addr} {o : HO} {t' : Nat} (I : Inv X pins σ H s) (mu : Mut (H x)) (he : e = x ∨ H e = some (.own x)) (k : ∀ b u, b ≠ e → s.heap.get? b = some u → h'.get? b = some u) (heo : ∃ u, h'.get? e = some u)
    (new : ObjOk X.prog X.w (upd H x o) h' x o) : Inv X pins σ (upd H x o) { s with heap := h', toks := t' } := I.un (Un.write mu he k heo) (I.hok.write mu he k heo new)
/-- forgetting slots, pins -/
theorem Inv.weak {σ' : List (Option V)} (I : Inv X pins σ H s) (hl : σ'.length = σ.length) (w : ∀ (i : Nat) v, σ'[i]? = some (some v) → σ[i]? = some (some v)) : Inv X pins σ' H s :=
  ⟨I.ok, I.os, I.bare, I.base, let ⟨m, hn, hl'⟩ := I.loc; ⟨m, hn, fun i x v e1 e2 e3 => hl' i x v e1 (w i v e2) e3⟩, I.cell, I.free, I.freeC, I.pin, I.hok, hl.trans I.len⟩
theorem Inv.pins_of {pins' : List (Addr × Obj)} (I : Inv X pins σ H s) (h : ∀ p ∈ pins', s.heap.get? p.1 = some p.2 ∧ H p.1 = none ∧ p.1 ≠ X.env.locals ∧ p.1 ∉ X.fs ∧ ∀ v, p.2.data ≠ .cell v) : Inv X pins' σ H s :=
  ⟨I.ok, I.os, I.bare, I.base, I.loc, I.cell, I.free, I.freeC, fun p hp => (List.mem_append.mp hp).elim (fun z => I.pin p (List.mem_append_left _ z)) (h p), I.hok, I.len⟩

theorem nodup_ix {N : List Str} (hN : N.Nodup) {i j : Nat} {x : Str} (a : N[i]? = some x) (b : N[j]? = some x) : i = j := by
  obtain ⟨h1, e1⟩ := List.getElem?_eq_some_iff.mp a
  obtain ⟨h2, e2⟩ := List.getElem?_eq_some_iff.mp b
  exact (List.getElem_inj hN).mp (e1.trans e2.symm)

/-- a name is stored; what changed -/
theorem store_ok2 {M : Model} {A : Around} {E : Value → Shared → Prop} {i : Nat} {x : Str} {v : V} {u : Value} {Q : Unit → Shared → Prop} (I : Inv X pins σ H s) (hN : X.N.Nodup) (hi : X.N[i]? = some x) (hx : Loc X.env.scope x) (r : RelV v u)
    (h : ∀ s', Inv X pins (σ.set i (some v)) H s' → (∃ a, Heap.SameBut a s.heap s'.heap ∧ (a = X.env.locals ∨ X.env.cells.lookup x = some a)) → Q () s') (hf : X.fn x = true ∨ X.env.scope.names.lookup x = some .local := by first | exact .inl rfl | exact .inr rfl | assumption) : wpAny M A (storeName X.env x u) Q E s := by
  obtain ⟨m, hn, hl⟩ := id I.loc
  have hcls : (X.env.scope.kind == .class || (X.env.scope.kind == .module && X.env.locals != X.env.globals)) = false := by rw [I.ok.kind]; rfl
  have hiσ : i < σ.length := by rw [I.len]; exact (List.getElem?_eq_some_iff.mp hi).1
  have cne := I.cne
  have tracked : ∀ {a : Addr} {h' : Heap}, (∃ o, s.heap.get? a = some o ∧ H a = none) → Heap.SameBut a s.heap h' → HOk X.prog X.w H h' := fun {a h'} ha hs b ob e => by
    obtain ⟨_, _, hfree⟩ := ha
    refine (I.hok b ob e).stay (fun c w' hc q => (hs.2 c ?_).trans q) (fun _ q => q) fun _ _ q => q
    rintro rfl
    rcases hc with rfl | hc
    · rw [hfree] at e; cases e
    · rw [hfree] at hc; cases hc
  rcases hx with hk | hk
  · refine wpAny_storeName_local hk hn (fun h' hn' hs => ?_) hcls
    obtain ⟨oL, _, _, hoL, _⟩ := id hn
    refine h _ ⟨I.ok, I.os, I.bare, ⟨fun b o e n hb hx => ?_, fun b o e n hb hx => ?_, I.base.free, fun b o e hx => ?_, I.base.tups, I.base.frzs, I.base.tbls⟩, ⟨_, hn', fun j y v' e1 e2 e3 => ?_⟩, fun y c e => ?_, I.free, I.freeC, fun p hp => ?_, tracked ⟨oL, hoL, I.free⟩ hs, by simpa using I.len⟩ ⟨_, hs, .inl rfl⟩
    · exact (hs.2 b (Nat.ne_of_lt (Nat.lt_of_lt_of_le (Heap.lt_size e) I.ok.above))).trans (I.base.keep b o e n hb hx)
    · obtain ⟨sl, e1⟩ := I.base.slot b o e n hb hx
      exact ⟨sl, (hs.2 b (Nat.ne_of_lt (Nat.lt_of_lt_of_le (Heap.lt_size e) I.ok.above))).trans e1⟩
    · obtain ⟨o', e1⟩ := I.base.there b o e hx
      exact ⟨o', (hs.2 b (Nat.ne_of_lt (Nat.lt_of_lt_of_le (Heap.lt_size e) I.ok.above))).trans e1⟩
    · by_cases hj : j = i
      · subst hj
        rw [hi] at e1; cases e1
        rw [List.getElem?_set_self hiσ] at e2
        cases e2
        exact ⟨u, r, .inl ⟨hk, by simp⟩⟩
      · rw [List.getElem?_set_ne (Ne.symm hj)] at e2
        obtain ⟨u', r', q⟩ := hl j y v' e1 e2 e3
        refine ⟨u', r', ?_⟩
        rcases q with ⟨k, e⟩ | ⟨k, c, e, z⟩
        · refine .inl ⟨k, ?_⟩
          have : y ≠ x := fun e => hj (nodup_ix hN e1 (e ▸ hi))
          simp [this, e]
        · exact .inr ⟨k, c, e, z.sameBut hs (cne y c e)⟩
    · obtain ⟨w', z⟩ := I.cell y c e
      exact ⟨w', z.sameBut hs (cne y c e)⟩
    · obtain ⟨e, n, ne, nf, d⟩ := I.pin p hp
      exact ⟨(hs.2 p.1 ne).trans e, n, ne, nf, d⟩
  · have hfn : X.fn x = true := by
      rcases hf with z | z
      · exact z
      · rw [z] at hk; cases hk
    obtain ⟨c, hc⟩ := I.ok.has x (.inl hk)
    obtain ⟨w', z⟩ := I.cell x c hc
    refine wpAny_storeName_cell I.ok.kind hk hc z (fun h' hc' hs => ?_)
    obtain ⟨oc, hoc, hocd⟩ := id z
    refine h { s with heap := h' } ⟨I.ok, I.os, I.bare, ⟨fun b o e n hb hx => ?_, fun b o e n hb hx => ?_, I.base.free, fun b o e hx => ?_, I.base.tups, I.base.frzs, I.base.tbls⟩, ⟨m, hn.sameBut hs (Ne.symm (cne x c hc)), fun j y v' e1 e2 e3 => ?_⟩, fun y c' e => ?_, I.free, I.freeC, fun p hp => ?_, tracked ⟨oc, hoc, I.freeC x c hc⟩ hs, by simpa using I.len⟩ ⟨c, hs, .inr hc⟩
    · exact (hs.2 b (Nat.ne_of_lt (Nat.lt_of_lt_of_le (Heap.lt_size e) (I.ok.cab x c hfn hc)))).trans (I.base.keep b o e n hb hx)
    · obtain ⟨sl, e1⟩ := I.base.slot b o e n hb hx
      exact ⟨sl, (hs.2 b (Nat.ne_of_lt (Nat.lt_of_lt_of_le (Heap.lt_size e) (I.ok.cab x c hfn hc)))).trans e1⟩
    · obtain ⟨o', e1⟩ := I.base.there b o e hx
      exact ⟨o', (hs.2 b (Nat.ne_of_lt (Nat.lt_of_lt_of_le (Heap.lt_size e) (I.ok.cab x c hfn hc)))).trans e1⟩
    · by_cases hj : j = i
      · subst hj
        rw [hi] at e1; cases e1
        rw [List.getElem?_set_self hiσ] at e2
        cases e2
        exact ⟨u, r, .inr ⟨.inl hk, c, hc, hc'⟩⟩
      · rw [List.getElem?_set_ne (Ne.symm hj)] at e2
        obtain ⟨u', r', q⟩ := hl j y v' e1 e2 e3
        refine ⟨u', r', ?_⟩
        rcases q with q | ⟨k, c', e, z'⟩
        · exact .inl q
        · refine .inr ⟨k, c', e, z'.sameBut hs ?_⟩
          rintro rfl
          exact hj (nodup_ix hN e1 (I.ok.inj _ _ _ e hc ▸ hi))
    · by_cases hcc : c' = c
      · subst hcc; exact ⟨_, hc'⟩
      · obtain ⟨w2, z2⟩ := I.cell y c' e
        exact ⟨w2, z2.sameBut hs hcc⟩
    · obtain ⟨e, n, ne, nf, d⟩ := I.pin p hp
      refine ⟨(hs.2 p.1 ?_).trans e, n, ne, nf, d⟩
      intro q
      rw [q, hoc] at e
      have q' : oc = p.2 := Option.some.inj e
      exact d w' (by rw [← q']; exact hocd)
theorem store_ok {M : Model} {A : Around} {E : Value → Shared → Prop} {i : Nat} {x : Str} {v : V} {u : Value} {Q : Unit → Shared → Prop} (I : Inv X pins σ H s) (hN : X.N.Nodup) (hi : X.N[i]? = some x) (hx : Loc X.env.scope x) (r : RelV v u)
    (h : ∀ s', Inv X pins (σ.set i (some v)) H s' → Q () s') (hf : X.fn x = true ∨ X.env.scope.names.lookup x = some .local := by first | exact .inl rfl | exact .inr rfl | assumption) : wpAny M A (storeName X.env x u) Q E s :=
  store_ok2 I hN hi hx r (fun s' I' _ => h s' I') hf
/-- behind a call or a block, the state as it is -/
theorem Inv.call' {s' : Shared} {ch : List Addr} (I : Inv X pins σ H s) (ho : s'.os = s.os) (u : Un (frs X.stack) ch H H' s.heap s'.heap) (hok : HOk X.prog X.w H' s'.heap) (hg : AllBare s'.gens)
    (hch : ∀ b ∈ ch, (b ∈ X.ex ∨ X.s_0.heap.objs.size ≤ b) ∧ b ≠ X.env.locals ∧ (∀ x c, X.env.cells.lookup x = some c → c ≠ b) ∧ ∀ p ∈ X.pn ++ pins, p.1 ≠ b) : Inv X pins σ H' s' := by
  obtain ⟨h', g', d', t', o'⟩ := s'
  have e : o' = s.os := ho
  subst e
  exact I.call (g' := g') (t' := t') (d' := d') u hok hg hch
end

/-! ### the judgements -/
/-- an exception: its class, its own dict's address (where it has one), the abstract heap behind it -/
abbrev XK := Value → Option Addr → Hp → Prop
abbrev St := List (Option V)
abbrev VK := V → Hp → Prop
/-- an expression's reading; a test's; an argument list's -/
abbrev TE := St → Hp → VK → Prop
abbrev TT := St → Hp → (Bool → Hp → Prop) → Prop
abbrev TA := St → Hp → (List V → Hp → Prop) → Prop
/-- what is wanted behind a statement -/
structure Ends where
  nx : St → Hp → Prop
  rt : VK
  bk : St → Hp → Prop := fun _ _ => False
  ct : St → Hp → Prop := fun _ _ => False
abbrev TS := Ends → St → Hp → Prop

def EP (X : Cx) (pins : List (Addr × Obj)) (σ : St) (Q : VK) (u : Value) (s' : Shared) : Prop := ∃ v H', Inv X pins σ H' s' ∧ RelV v u ∧ Q v H'
def TP (X : Cx) (pins : List (Addr × Obj)) (σ : St) (Q : Bool → Hp → Prop) (b : Bool) (s' : Shared) : Prop := ∃ H', Inv X pins σ H' s' ∧ Q b H'
def AP (X : Cx) (pins : List (Addr × Obj)) (σ : St) (Q : List V → Hp → Prop) (us : List Value) (s' : Shared) : Prop := ∃ vs H', Inv X pins σ H' s' ∧ Vals vs us ∧ Q vs H'
def SP (X : Cx) (pins : List (Addr × Obj)) (D : Ends) (f : Flow) (s' : Shared) : Prop :=
  match f with
  | .next => ∃ σ' H', Inv X pins σ' H' s' ∧ D.nx σ' H'
  | .brk => ∃ σ' H', Inv X pins σ' H' s' ∧ D.bk σ' H'
  | .cont => ∃ σ' H', Inv X pins σ' H' s' ∧ D.ct σ' H'
  | .ret u => ∃ v σ' H', Inv X pins σ' H' s' ∧ RelV v u ∧ D.rt v H'

def PE (X : Cx) (e : Expr) (t : TE) : Prop :=
  ∀ (pins : List (Addr × Obj)) (s : Shared) (σ : St) (H : Hp) (Q : VK), Inv X pins σ H s → t σ H Q → wpAny (model X.prog X.w) X.A (eval e X.env) (EP X pins σ Q) X.xe s
def PT (X : Cx) (e : Expr) (t : TT) : Prop :=
  ∀ (pins : List (Addr × Obj)) (s : Shared) (σ : St) (H : Hp) (Q : Bool → Hp → Prop), Inv X pins σ H s → t σ H Q → wpAny (model X.prog X.w) X.A (isTrue e X.env (eval e X.env)) (TP X pins σ Q) X.xe s
/-- a test whatever its 'whole' is (and, or) -/
def PW (X : Cx) (e : Expr) (t : TT) : Prop :=
  ∀ (whole : Sem Value) (pins : List (Addr × Obj)) (s : Shared) (σ : St) (H : Hp) (Q : Bool → Hp → Prop), Inv X pins σ H s → t σ H Q → wpAny (model X.prog X.w) X.A (isTrue e X.env whole) (TP X pins σ Q) X.xe s
theorem PW.pt {X : Cx} {e : Expr} {t : TT} (h : PW X e t) : PT X e t := h _
/-- an argument list (no star), from the left -/
def PA (X : Cx) (es : List Expr) (t : TA) : Prop :=
  ∀ (pos : Pos) (pins : List (Addr × Obj)) (s : Shared) (σ : St) (H : Hp) (Q : List V → Hp → Prop), Inv X pins σ H s → t σ H Q → wpAny (model X.prog X.w) X.A (spliced (backTo pos (starEach es X.env))) (AP X pins σ Q) X.xe s
def PS (X : Cx) (st : Stmt) (t : TS) : Prop :=
  ∀ (pins : List (Addr × Obj)) (s : Shared) (σ : St) (H : Hp) (D : Ends), Inv X pins σ H s → t D σ H → wpAny (model X.prog X.w) X.A (exec st X.env) (SP X pins D) X.xe s
def PSs (X : Cx) (st : List Stmt) (t : TS) : Prop :=
  ∀ (pins : List (Addr × Obj)) (s : Shared) (σ : St) (H : Hp) (D : Ends), Inv X pins σ H s → t D σ H → wpAny (model X.prog X.w) X.A (execs st X.env) (SP X pins D) X.xe s
/-- weaken the end -/
theorem thn {α : Type} {t : Sem α} {Q Q' : α → Shared → Prop} {M : Model} {A : Around} {E : Value → Shared → Prop} {s : Shared} (h : wpAny M A t Q E s) (hQ : ∀ a s, Q a s → Q' a s) : wpAny M A t Q' E s := wpAny_mono h hQ fun _ _ x => x
end L2

namespace L2
open PySem PySem.Spec PyProof.Rows
section
variable {X : Cx}

/-- two expressions in a row -/
theorem bin {a b : Expr} {ta tb : TE} (ha : PE X a ta) (hb : PE X b tb) {pins : List (Addr × Obj)} {s : Shared} {σ : St} {H : Hp} {R : V → V → Hp → Prop} (I : Inv X pins σ H s) (h : ta σ H fun x H1 => tb σ H1 fun y H2 => R x y H2)
    {α : Type} {Q : α → Shared → Prop} {f : Value → Value → Sem α}
    (hf : ∀ v u s2 x y H2, Inv X pins σ H2 s2 → RelV x v → RelV y u → R x y H2 → wpAny (model X.prog X.w) X.A (f v u) Q X.xe s2) :
    wpAny (model X.prog X.w) X.A (eval a X.env) (fun v s₁ => wpAny (model X.prog X.w) X.A (eval b X.env) (fun u s₂ => wpAny (model X.prog X.w) X.A (f v u) Q X.xe s₂) X.xe s₁) X.xe s := by
  refine thn (ha pins s σ H _ I h) fun v s1 ⟨x, H1, I1, r1, q1⟩ => ?_
  refine thn (hb pins s1 σ H1 _ I1 q1) fun u s2 ⟨y, H2, I2, r2, q2⟩ => ?_
  exact hf v u s2 x y H2 I2 r1 r2 q2

/-! ### names and constants -/
def tVar (i : Nat) : TE := fun σ H Q => ∃ v, σ[i]? = some (some v) ∧ Q v H
def tC (v : V) : TE := fun _ H Q => Q v H
theorem pe_var {i : Nat} {x : Str} {pos : Pos} (hN : X.N[i]? = some x) (hv : Vis X.env.scope x) (hd : (x == ("__debug__" : Str)) = false := by decide) (hcd : (x == ("__classdict__" : Str)) = false := by decide) : PE X (.Name x pos) (tVar i) := by
  intro pins s σ H Q I h
  obtain ⟨v, e, h⟩ := h
  obtain ⟨m, hn, hl⟩ := I.loc
  obtain ⟨u, r, l⟩ := hl i x v hN e hv
  have fin : EP X pins σ Q u s := ⟨v, H, I, r, h⟩
  rcases l with ⟨hk, hm⟩ | ⟨hk, c, hc, hcell⟩
  · exact wpAny_Name (wpAny_loadName_local I.ok.kind hk hn hm fin) hd
  · rcases hk with hk | hk
    · exact wpAny_Name (wpAny_loadName_cell I.ok.kind hk hc hcell fin) hd
    · exact wpAny_Name (wpAny_loadName_free I.ok.kind hk hc hcell fin hcd) hd
theorem pe_int {i j pos} : PE X (.Constant (.int i) j pos) (tC (.int i)) := fun _ _ _ H _ I h => wpAny_Constant_int ⟨.int i, H, I.tok _, ⟨_, rfl⟩, h⟩
theorem pe_bl {b j pos} : PE X (.Constant (.bool b) j pos) (tC (.bl b)) := fun _ _ _ H _ I h => Constant_bool ⟨.bl b, H, I, rfl, h⟩
theorem pe_non {j pos} : PE X (.Constant .none j pos) (tC .non) := fun _ _ _ H _ I h => Constant_none ⟨.non, H, I, rfl, h⟩
theorem pe_str {x j pos} : PE X (.Constant (.str x) j pos) (tC (.str x)) := fun _ _ _ H _ I h => Calls.Constant_str ⟨.str x, H, I.tok _, ⟨_, rfl⟩, h⟩

/-- a global name of the def -/
def Gl (X : Cx) (x : Str) : Prop := X.env.kindOf x = some .globalImplicit
theorem ld_glob {E : Value → Shared → Prop} {pins : List (Addr × Obj)} {s : Shared} {σ : St} {H : Hp} {x : Str} {u : Value} {pos : Pos} {Q : Value → Shared → Prop} (I : Inv X pins σ H s) (hg : Gl X x) (hm : X.mg x = some u) (h : Q u s)
    (hd : (x == ("__debug__" : Str)) = false := by decide) : wpAny (model X.prog X.w) X.A (eval (.Name x pos) X.env) Q E s :=
  Calls.Name_function_global I.ok.kind hg (Calls.loadGlobal_global (by rw [I.ok.glob]; exact I.mod.glob.keeps I.bk) hm h) hd
theorem ld_blt {E : Value → Shared → Prop} {pins : List (Addr × Obj)} {s : Shared} {σ : St} {H : Hp} {x : Str} {u : Value} {pos : Pos} {Q : Value → Shared → Prop} (I : Inv X pins σ H s) (hg : Gl X x) (hm : X.mg x = none) (hv : bootBuiltins x = some u) (h : Q u s)
    (hn : x ≠ "__name__" := by decide) (hd : (x == ("__debug__" : Str)) = false := by decide) : wpAny (model X.prog X.w) X.A (eval (.Name x pos) X.env) Q E s := by
  obtain ⟨mb, h1, h2⟩ := I.mod.blt
  exact Calls.Name_function_global I.ok.kind hg (Calls.loadGlobal_builtin (by rw [I.ok.glob]; exact I.mod.glob.keeps I.bk) hm (by rw [I.ok.blt]; exact h1.keeps I.bk) ((h2 x hn).trans hv) h) hd
/-- a module's constant, a class, a function, as a value -/
theorem pe_glob {x : Str} {v : V} {u : Value} {pos : Pos} (hg : Gl X x) (hm : X.mg x = some u) (r : RelV v u) (hd : (x == ("__debug__" : Str)) = false := by decide) : PE X (.Name x pos) (tC v) :=
  fun _ _ _ H _ I h => ld_glob I hg hm ⟨v, H, I, r, h⟩ hd
theorem pe_bltn {x : Str} {v : V} {u : Value} {pos : Pos} (hg : Gl X x) (hm : X.mg x = none) (hv : bootBuiltins x = some u) (r : RelV v u) (hn : x ≠ "__name__" := by decide) (hd : (x == ("__debug__" : Str)) = false := by decide) : PE X (.Name x pos) (tC v) :=
  fun _ _ _ H _ I h => ld_blt I hg hm hv ⟨v, H, I, r, h⟩ hn hd

/-! ### arithmetic -/
variable {a b : Expr} {ta tb : TE} {pos : Pos}

/-! ### comparisons -/
def PC (X : Cx) (op : CmpOp) (a b : Expr) (t : TE) : Prop :=
  ∀ (pins : List (Addr × Obj)) (s : Shared) (σ : St) (H : Hp) (Q : VK), Inv X pins σ H s → t σ H Q →
    wpAny (model X.prog X.w) X.A (eval a X.env) (fun v s₁ => wpAny (model X.prog X.w) X.A (eval b X.env) (fun u s₂ => wpAny (model X.prog X.w) X.A (compareOp op v u) (EP X pins σ Q) X.xe s₂) X.xe s₁) X.xe s
theorem nobehind (b : Expr) {op : CmpOp} (h : op ≠ .In) (h2 : op ≠ .NotIn) : behindInMarks op b = false := by
  have e1 : (op == CmpOp.In) = false := by cases op <;> first | rfl | exact absurd rfl h
  have e2 : (op == CmpOp.NotIn) = false := by cases op <;> first | rfl | exact absurd rfl h2
  cases b <;> simp [behindInMarks, e1, e2]
/-- a comparison as a value, as a test -/
def tB (t : TE) : TT := fun σ H Q => t σ H fun x H1 => ∃ c, x = .bl c ∧ Q c H1
theorem pt_cmp {op : CmpOp} {t : TE} (h : PC X op a b t) (h1 : behindInMarks op b = false := by first | exact nobehind _ (by decide) (by decide) | rfl) : PT X (.Compare a [op] [b] pos) (tB t) := by
  intro pins s σ H Q I hw
  refine wpAny_isTrue_Compare1 (thn (h pins s σ H _ I hw) fun v s1 h1 => thn h1 fun u s2 h2 => thn h2 fun c s3 ⟨x, H1, I1, r1, q1⟩ => ?_) h1
  obtain ⟨d, rfl, q⟩ := q1
  cases r1
  exact wpAny_truthy_bool ⟨H1, I1, q⟩
/-- an expression whose value is a bool, as a test -/
theorem pt_val {e : Expr} {t : TE} (h : PE X e t) (he : ∀ whole, isTrue e X.env whole = (do let v ← whole; standAt e.pos; holding [v] (truthy v)) := by intro _; rfl) : PT X e (tB t) := by
  intro pins s σ H Q I hw
  refine isTrue_plain (thn (h pins s σ H _ I hw) fun v s1 ⟨x, H1, I1, r1, q1⟩ => ?_) (he _)
  obtain ⟨d, rfl, q⟩ := q1
  cases r1
  exact wpAny_truthy_bool ⟨H1, I1, q⟩

/-! ### and, or, not -/
variable {tA tB' : TT} {rest : List Expr}
def tOr (t u : TT) : TT := fun σ H Q => t σ H fun c H1 => if c = true then Q true H1 else u σ H1 Q
def tNot (t : TT) : TT := fun σ H Q => t σ H fun c H1 => Q (!c) H1
theorem pw_or1 (ha : PT X a tA) : PW X (.BoolOp .Or [a] pos) tA := by
  intro wh pins s σ H Q I h
  refine isTrue_or (thn (ha pins s σ H Q I h) fun c s1 e => ?_)
  cases c with
  | false => exact isTrue_or_nil e
  | true => exact e
theorem pw_or (ha : PT X a tA) (hb : PW X (.BoolOp .Or (b :: rest) pos) tB') : PW X (.BoolOp .Or (a :: b :: rest) pos) (tOr tA tB') := by
  intro wh pins s σ H Q I h
  refine isTrue_or (thn (ha pins s σ H _ I h) fun c s1 ⟨H1, I1, q1⟩ => ?_)
  cases c with
  | true => exact ⟨H1, I1, q1⟩
  | false => exact hb wh pins s1 σ H1 Q I1 q1
theorem pt_not (ha : PT X a tA) : PT X (.UnaryOp .Not a pos) (tNot tA) := by
  intro pins s σ H Q I h
  exact isTrue_not (ha pins s σ H (fun c H1 => Q (!c) H1) I h)
/-- .. as values (bools) -/
def tAndV (ta tb : TE) : TE := fun σ H Q => ta σ H fun x H1 => ∃ c, x = .bl c ∧ if c = true then tb σ H1 Q else Q (.bl false) H1
def tNotV (ta : TE) : TE := fun σ H Q => ta σ H fun x H1 => ∃ c, x = .bl c ∧ Q (.bl (!c)) H1
theorem pe_one {op} {t : TE} (h : PE X a t) : PE X (.BoolOp op [a] pos) t := fun pins s σ H Q I hw => BoolOp_one (h pins s σ H Q I hw)
theorem pe_and (ha : PE X a ta) (hb : PE X (.BoolOp .And (b :: rest) pos) tb) : PE X (.BoolOp .And (a :: b :: rest) pos) (tAndV ta tb) := by
  intro pins s σ H Q I h
  refine BoolOp_and (thn (ha pins s σ H _ I h) fun v s1 ⟨x, H1, I1, r1, q1⟩ => ?_)
  obtain ⟨c, rfl, q1⟩ := q1
  cases r1
  refine wpAny_truthy_bool ?_
  cases c with
  | true => exact hb pins s1 σ H1 Q I1 q1
  | false => exact ⟨.bl false, H1, I1, rfl, q1⟩
theorem pe_not (ha : PE X a ta) : PE X (.UnaryOp .Not a pos) (tNotV ta) := by
  intro pins s σ H Q I h
  refine UnaryOp_ (thn (ha pins s σ H _ I h) fun v s1 ⟨x, H1, I1, r1, q1⟩ => ?_)
  obtain ⟨c, rfl, q1⟩ := q1
  cases r1
  exact not_of (wpAny_truthy_bool ⟨.bl (!c), H1, I1, rfl, q1⟩)
/-- a if t else b -/
def tIf (t : TT) (ta tb : TE) : TE := fun σ H Q => t σ H fun c H1 => if c = true then ta σ H1 Q else tb σ H1 Q
theorem pe_ifExp {c : Expr} (hc : PT X c tA) (ha : PE X a ta) (hb : PE X b tb) : PE X (.IfExp c a b pos) (tIf tA ta tb) := by
  intro pins s σ H Q I h
  refine wpAny_IfExp (thn (hc pins s σ H _ I h) fun d s1 ⟨H1, I1, q1⟩ => ?_)
  cases d with
  | true => exact ha pins s1 σ H1 Q I1 q1
  | false => exact hb pins s1 σ H1 Q I1 q1
end
end L2

namespace L2
open PySem PySem.Spec PyProof.Rows

/-! ### a list, a tuple that is read: tracked, frozen, or an object of the module -/
def SqL (K : PySem.W.Frag) (H : Hp) (a : Addr) (xs : List V) : Prop :=
  Rd H a (.lst xs) ∨
    ∃ (o : Obj) (its : Array Value) (n : Nat), K.lookup a = some o ∧ o.cls = .type "list" ∧ o.dict = none ∧ o.data = .seq its n ∧ its.size ≤ sizeLine ∧ Vals xs its.toList
def SqT (K : PySem.W.Frag) (H : Hp) (a : Addr) (xs : List V) : Prop :=
  Rd H a (.tup xs) ∨
    ∃ (o : Obj) (its : Array Value) (n : Nat), K.lookup a = some o ∧ o.cls = .type "tuple" ∧ o.data = .seq its n ∧ its.size ≤ sizeLine ∧ Vals xs its.toList
def absV : Value → Option V
  | .none => some .non
  | .bool b => some (.bl b)
  | .int i _ => some (.int i)
  | .str x _ => some (.str x)
  | .bytes b _ => some (.byt b)
  | .float b _ => some (.flt b)
  | .ref a => some (.ref a)
  | .type n => some (.ty n)
  | _ => none
theorem RelV.abs {x : V} {u : Value} (r : RelV x u) : absV u = some x := by
  cases x with
  | non => cases r; rfl
  | bl _ => cases r; rfl
  | int _ => obtain ⟨t, rfl⟩ := r; rfl
  | str _ => obtain ⟨t, rfl⟩ := r; rfl
  | byt _ => obtain ⟨t, rfl⟩ := r; rfl
  | flt _ => obtain ⟨t, rfl⟩ := r; rfl
  | ref _ => cases r; rfl
  | ty _ => cases r; rfl
theorem RelV.inj {x y : V} {u : Value} (r : RelV x u) (q : RelV y u) : x = y := Option.some.inj (r.abs.symm.trans q.abs)
theorem Vals.inj : ∀ {xs ys : List V} {us : List Value}, Vals xs us → Vals ys us → xs = ys
  | _, _, _, .nil, .nil => rfl
  | _, _, _, .cons r t, .cons r' t' => by rw [r.inj r', Vals.inj t t']
section
variable {X : Cx} {pins : List (Addr × Obj)} {σ : St} {H : Hp} {s : Shared} {a : Addr} {xs ys : List V}
theorem SqL.of {K : PySem.W.Frag} (h : H a = some (.lst xs)) : SqL K H a xs := .inl (.inl h)
theorem SqT.of {K : PySem.W.Frag} (h : H a = some (.tup xs)) : SqT K H a xs := .inl (.inl h)
theorem Inv.list (I : Inv X pins σ H s) (h : SqL X.K H a xs) : ∃ its : List Value, Vals xs its ∧ PlainL s.heap a its.toArray ∧ xs.length ≤ sizeLine := by
  rcases h with h | ⟨o, its, n, hk, hc, hd, hs, hz, r⟩
  · obtain ⟨z, its, n, r, e⟩ := h.ok I.hok
    exact ⟨its, r, ⟨_, n, e, rfl, rfl, rfl⟩, z⟩
  · refine ⟨its.toList, r, ⟨o, n, I.kIn a o hk, hc, hd, by simpa using hs⟩, ?_⟩
    have e := r.length
    simp only [Array.length_toList] at e
    omega
theorem Inv.tuple (I : Inv X pins σ H s) (h : SqT X.K H a xs) : ∃ its : List Value, Vals xs its ∧ IsTup s.heap a its.toArray ∧ xs.length ≤ sizeLine := by
  rcases h with h | ⟨o, its, n, hk, hc, hs, hz, r⟩
  · obtain ⟨z, its, r, p⟩ := h.ok I.hok
    exact ⟨its, r, p, z⟩
  · refine ⟨its.toList, r, ⟨o, I.kIn a o hk, hc, n, by simpa using hs⟩, ?_⟩
    have e := r.length
    simp only [Array.length_toList] at e
    omega
theorem Inv.list_inj (I : Inv X pins σ H s) (h : SqL X.K H a xs) (h' : SqL X.K H a ys) : xs = ys := by
  obtain ⟨its, r, ⟨o, n, e, _, _, d⟩, _⟩ := I.list h
  obtain ⟨its', r', ⟨o', n', e', _, _, d'⟩, _⟩ := I.list h'
  rw [e] at e'; cases e'
  rw [d] at d'
  injection d' with d1 _
  have : its = its' := by simpa using congrArg Array.toList d1
  subst this
  exact r.inj r'
theorem Inv.tuple_inj (I : Inv X pins σ H s) (h : SqT X.K H a xs) (h' : SqT X.K H a ys) : xs = ys := by
  obtain ⟨its, r, ⟨o, e, _, n, d⟩, _⟩ := I.tuple h
  obtain ⟨its', r', ⟨o', e', _, n', d'⟩, _⟩ := I.tuple h'
  rw [e] at e'; cases e'
  rw [d] at d'
  injection d' with d1 _
  have : its = its' := by simpa using congrArg Array.toList d1
  subst this
  exact r.inj r'
end

/-! ### another wish about exceptions -/
abbrev Cx.wish (X : Cx) (E : Value → Shared → Prop) : Cx := { X with xe := E }
/-- no exception leaves -/
abbrev Cx.nox (X : Cx) : Cx := X.wish fun _ _ => False
theorem Cx.Ok.wish {X : Cx} (ok : X.Ok) (E : Value → Shared → Prop) : (X.wish E).Ok :=
  ⟨ok.mod, ok.kind, ok.glob, ok.blt, ok.above, ok.inj, ok.has, ok.cab, ok.hd, ok.frames, ok.stk, ok.exf, ok.bs, ok.bsz, ok.noex, ok.exfs, ok.funs, ok.frf⟩
theorem Cx.Ok.unwish {X : Cx} {E : Value → Shared → Prop} (ok : (X.wish E).Ok) : X.Ok :=
  ⟨ok.mod, ok.kind, ok.glob, ok.blt, ok.above, ok.inj, ok.has, ok.cab, ok.hd, ok.frames, ok.stk, ok.exf, ok.bs, ok.bsz, ok.noex, ok.exfs, ok.funs, ok.frf⟩
section
variable {X : Cx} {pins : List (Addr × Obj)} {σ : St} {H : Hp} {s : Shared} {E : Value → Shared → Prop}
theorem Inv.wish (I : Inv X pins σ H s) (E : Value → Shared → Prop) : Inv (X.wish E) pins σ H s := ⟨I.ok.wish E, I.os, I.bare, I.base, I.loc, I.cell, I.free, I.freeC, I.pin, I.hok, I.len⟩
theorem Inv.unwish (I : Inv (X.wish E) pins σ H s) : Inv X pins σ H s := ⟨I.ok.unwish, I.os, I.bare, I.base, I.loc, I.cell, I.free, I.freeC, I.pin, I.hok, I.len⟩
theorem SP.unwish {D : Ends} {f : Flow} {s' : Shared} (h : SP (X.wish E) pins D f s') : SP X pins D f s' := by
  cases f with
  | next => obtain ⟨σ', H', I, q⟩ := h; exact ⟨σ', H', I.unwish, q⟩
  | brk => obtain ⟨σ', H', I, q⟩ := h; exact ⟨σ', H', I.unwish, q⟩
  | cont => obtain ⟨σ', H', I, q⟩ := h; exact ⟨σ', H', I.unwish, q⟩
  | ret u => obtain ⟨v, σ', H', I, r, q⟩ := h; exact ⟨v, σ', H', I.unwish, r, q⟩
theorem PE.nox {e : Expr} {t : TE} (h : PE X.nox e t) : PE X e t := fun pins s σ H Q I hw =>
  wpAny_mono (h pins s σ H Q (I.wish _) hw) (fun _ _ ⟨v, H', I', r, q⟩ => ⟨v, H', I'.unwish, r, q⟩) fun _ _ z => False.elim z
theorem PT.nox {e : Expr} {t : TT} (h : PT X.nox e t) : PT X e t := fun pins s σ H Q I hw =>
  wpAny_mono (h pins s σ H Q (I.wish _) hw) (fun _ _ ⟨H', I', q⟩ => ⟨H', I'.unwish, q⟩) fun _ _ z => False.elim z
theorem PSs.nox {st : List Stmt} {t : TS} (h : PSs X.nox st t) : PSs X st t := fun pins s σ H D I hw =>
  wpAny_mono (h pins s σ H D (I.wish _) hw) (fun _ _ q => q.unwish) fun _ _ z => False.elim z
end

/-! ### blocks and small statements -/
section
variable {X : Cx} {st : Stmt} {rest : List Stmt} {t u : TS} {e : Expr} {te : TE} {pos : Pos}
def tNext : TS := fun D σ H => D.nx σ H
def tSeq (t u : TS) : TS := fun D σ H => t { D with nx := u D } σ H
theorem pss_nil : PSs X [] tNext := fun _ _ σ H _ I h => wpAny_execs_nil ⟨σ, H, I, h⟩
theorem pss_cons (h1 : PS X st t) (h2 : PSs X rest u) : PSs X (st :: rest) (tSeq t u) := by
  intro pins s σ H D I h
  refine wpAny_execs_cons (thn (h1 pins s σ H { D with nx := u D } I h) fun f s1 q => ?_)
  cases f with
  | next =>
    obtain ⟨σ', H', I', q⟩ := q
    exact h2 pins s1 σ' H' D I' q
  | ret v => exact q
  | brk => exact q
  | cont => exact q
theorem pss_one (h1 : PS X st t) : PSs X [st] t := by
  intro pins s σ H D I h
  refine wpAny_execs_cons (thn (h1 pins s σ H D I h) fun f s1 q => ?_)
  cases f with
  | next => exact wpAny_execs_nil q
  | ret v => exact q
  | brk => exact q
  | cont => exact q
/-- in a def's body nothing is shown -/
theorem Inv.quiet {pins : List (Addr × Obj)} {σ : St} {H : Hp} {s : Shared} (I : Inv X pins σ H s) : interactive X.env = false := by simp [interactive, I.ok.kind]
/-- an expression whose value is dropped -/
def tDrop (te : TE) : TS := fun D σ H => te σ H fun _ H1 => D.nx σ H1
theorem ps_expr (he : PE X e te) (hs : swapsWith e none pos.line X.env = pure false := by rfl) : PS X (.Expr e pos) (tDrop te) := by
  intro pins s σ H D I h
  exact wpAny_Expr_any (thn (he pins s σ H _ I h) fun v s1 ⟨x, H1, I1, r1, q1⟩ => ⟨σ, H1, I1, q1⟩) I.quiet hs
def tRet (te : TE) : TS := fun D σ H => te σ H D.rt
theorem ps_ret (he : PE X e te) : PS X (.Return (some e) pos) (tRet te) := by
  intro pins s σ H D I h
  exact wpAny_Return_some (thn (he pins s σ H _ I h) fun v s1 ⟨x, H1, I1, r1, q1⟩ => ⟨x, σ, H1, I1, r1, q1⟩)
def tIfS (c : TT) (t u : TS) : TS := fun D σ H => c σ H fun b H1 => if b = true then t D σ H1 else u D σ H1
theorem ps_if {c : Expr} {a b : List Stmt} {tc : TT} (hc : PT X c tc) (ha : PSs X a t) (hb : PSs X b u) : PS X (.If c a b pos) (tIfS tc t u) := by
  intro pins s σ H D I h
  refine wpAny_If (thn (hc pins s σ H _ I h) fun d s1 ⟨H1, I1, q1⟩ => ?_)
  cases d with
  | true => exact ha pins s1 σ H1 D I1 q1
  | false => exact hb pins s1 σ H1 D I1 q1
/-- code that the proof never comes to -/
def tNever : TS := fun _ _ _ => False
theorem ps_never : PS X st tNever := fun _ _ _ _ _ _ h => h.elim
end

/-! ### targets -/
abbrev TG := V → St → Hp → (St → Hp → Prop) → Prop
abbrev TGs := List V → St → Hp → (St → Hp → Prop) → Prop
def PG (X : Cx) (target : Expr) (t : TG) : Prop :=
  ∀ (pins : List (Addr × Obj)) (s : Shared) (σ : St) (H : Hp) (v : V) (u : Value) (Q : St → Hp → Prop), Inv X pins σ H s → RelV v u → t v σ H Q →
    wpAny (model X.prog X.w) X.A (assign target X.env u) (fun _ s' => ∃ σ' H', Inv X pins σ' H' s' ∧ Q σ' H') X.xe s
/-- several targets, one after another -/
def PGs (X : Cx) (ts : List Expr) (t : TGs) : Prop :=
  ∀ (pins : List (Addr × Obj)) (s : Shared) (σ : St) (H : Hp) (vs : List V) (us : List Value) (Q : St → Hp → Prop), Inv X pins σ H s → Vals vs us → t vs σ H Q →
    wpAny (model X.prog X.w) X.A (assignInOrder ((assignEach ts X.env).map (·.2)) us) (fun _ s' => ∃ σ' H', Inv X pins σ' H' s' ∧ Q σ' H') X.xe s
/-- o[i] = v, by values -/
abbrev TSet := V → V → V → Hp → (Hp → Prop) → Prop
def PSet (X : Cx) (t : TSet) : Prop :=
  ∀ (pins : List (Addr × Obj)) (s : Shared) (σ : St) (H : Hp) (o i v : V) (ov iv u : Value) (Q : Hp → Prop), Inv X pins σ H s → RelV o ov → RelV i iv → RelV v u → t o i v H Q →
    wpAny (model X.prog X.w) X.A (setItem ov iv u) (fun _ s' => ∃ H', Inv X pins σ H' s' ∧ Q H') X.xe s
/-- a op= b, by values -/
abbrev TIp := V → V → Hp → VK → Prop
def PIp (X : Cx) (op : Operator) (t : TIp) : Prop :=
  ∀ (pins : List (Addr × Obj)) (s : Shared) (σ : St) (H : Hp) (x y : V) (v u : Value) (Q : VK), Inv X pins σ H s → RelV x v → RelV y u → t x y H Q →
    wpAny (model X.prog X.w) X.A (inplaceOp op v u) (EP X pins σ Q) X.xe s
section
variable {X : Cx} {pos : Pos}
def gName (i : Nat) : TG := fun v σ H Q => Q (σ.set i (some v)) H
theorem pg_name {i : Nat} {x : Str} (hN : X.N.Nodup) (hi : X.N[i]? = some x) (hx : Loc X.env.scope x) (hf : X.fn x = true ∨ X.env.scope.names.lookup x = some .local := by first | exact .inl rfl | exact .inr rfl | assumption) : PG X (.Name x pos) (gName i) := by
  intro pins s σ H v u Q I r h
  exact wpAny_assign_Name (store_ok I hN hi hx r (fun s' I' => ⟨_, H, I', h⟩) hf)
def gNil : TGs := fun vs σ H Q => vs = [] ∧ Q σ H
def gCons (t : TG) (u : TGs) : TGs := fun vs σ H Q => ∃ v r, vs = v :: r ∧ t v σ H fun σ' H' => u r σ' H' Q
theorem pgs_nil : PGs X [] gNil := by
  intro pins s σ H vs us Q I r h
  obtain ⟨e, h⟩ := h
  subst e
  cases r
  exact assignInOrder_nil ⟨σ, H, I, h⟩
theorem pgs_cons {e : Expr} {es : List Expr} {t : TG} {u : TGs} (h1 : PG X e t) (h2 : PGs X es u)
    (hs : (assignEach (e :: es) X.env).map (·.2) = assign e X.env :: (assignEach es X.env).map (·.2) := by rfl) : PGs X (e :: es) (gCons t u) := by
  intro pins s σ H vs us Q I r h
  obtain ⟨v, vr, e1, h⟩ := h
  subst e1
  cases r with
  | cons r rr =>
    rw [hs]
    refine assignInOrder_cons (thn (h1 pins s σ H _ _ _ I r h) fun _ s1 ⟨σ1, H1, I1, q1⟩ => ?_)
    exact h2 pins s1 σ1 H1 _ _ Q I1 rr q1
/-- (a, b, ..) = a tuple of that length -/
def gTup (K : PySem.W.Frag) (n : Nat) (t : TGs) : TG := fun v σ H Q => ∃ a xs, v = .ref a ∧ SqT K H a xs ∧ xs.length = n ∧ t xs σ H Q
theorem pg_tup {es : List Expr} {k : Nat} {t : TGs} {n : Nat} (hc : X.calm = true) (h : PGs X es t)
    (hn : (assignEach es X.env).length = n := by rfl) (hst : (assignEach es X.env).findIdx? (·.1) = none := by rfl) : PG X (.Tuple es k pos) (gTup X.K n t) := by
  intro pins s σ H v u Q I r hw
  obtain ⟨a, xs, e1, hq, hl, hw⟩ := hw
  subst e1
  cases r
  obtain ⟨its, rv, ht, hz⟩ := I.tuple hq
  refine assign_Tuple_tuple (I.ok.hd hc) ht (by simp [hn, ← hl, rv.length]) hst fun h' hx => ?_
  have I1 : Inv X pins σ H { s with heap := h' } := I.kept (t' := s.toks) fun b o e => hx b o (Nat.ne_of_lt (Heap.lt_size e)) e
  exact h pins _ σ H xs _ Q I1 (by simpa using rv) hw
/-- o[i] = .. -/
def gSub (to ti : TE) (t : TSet) : TG := fun v σ H Q => to σ H fun o H1 => ti σ H1 fun i H2 => t o i v H2 fun H3 => Q σ H3
theorem pg_sub {o i : Expr} {to ti : TE} {t : TSet} (ho : PE X o to) (hi : PE X i ti) (hs : PSet X t)
    (ha : ∀ v, assign (.Subscript o i pos) X.env v = (do
      let ov ← holding [v] (eval o X.env)
      let iv ← holding [v, ov] (eval i X.env)
      standAt pos
      holding [v, ov, iv] (setItem ov iv v)
      release [v, ov, iv] []) := by intro _; rfl) : PG X (.Subscript o i pos) (gSub to ti t) := by
  intro pins s σ H v u Q I r h
  rw [ha]
  refine wpAny_bind (wpAny_holding (thn (ho pins s σ H _ I h) fun ov s1 ⟨x, H1, I1, r1, q1⟩ => ?_))
  refine wpAny_bind (wpAny_holding (thn (hi pins s1 σ H1 _ I1 q1) fun iv s2 ⟨y, H2, I2, r2, q2⟩ => ?_))
  refine wpAny_bind (wpAny_standAt (wpAny_bind (wpAny_holding (thn (hs pins s2 σ H2 x y v ov iv u _ I2 r1 r2 r q2) fun _ s3 ⟨H3, I3, q3⟩ => ?_))))
  exact wpAny_release ⟨σ, H3, I3, q3⟩
/-- target = value -/
def tAsg (te : TE) (g : TG) : TS := fun D σ H => te σ H fun x H1 => g x σ H1 D.nx
theorem ps_asg {tg e : Expr} {te : TE} {g : TG} (he : PE X e te) (hg : PG X tg g) (hs : swapsWithSole [tg] e pos.line X.env = pure false := by rfl) (hw : swappedStores [tg] e X.env = pure none := by rfl)
    (h1 : (assignEach [tg] X.env).map (·.2) = [assign tg X.env] := by rfl) : PS X (.Assign [tg] e pos) (tAsg te g) := by
  intro pins s σ H D I h
  refine wpAny_Assign_stores (thn (he pins s σ H _ I h) fun v s1 ⟨x, H1, I1, r1, q1⟩ => ?_) hs hw
  rw [h1]
  exact thn (hg pins s1 σ H1 x v _ I1 r1 q1) fun _ s2 q => q
/-- name = value -/
theorem ps_set {i : Nat} {x : Str} {e : Expr} {te : TE} {pos' : Pos} (hN : X.N.Nodup) (hi : X.N[i]? = some x) (hx : Loc X.env.scope x) (he : PE X e te) (hs : swapsWith e (some (.Name x pos')) pos.line X.env = pure false := by rfl) (hf : X.fn x = true ∨ X.env.scope.names.lookup x = some .local := by first | exact .inl rfl | exact .inr rfl | assumption) :
    PS X (.Assign [.Name x pos'] e pos) (tAsg te (gName i)) := by
  intro pins s σ H D I h
  refine wpAny_Assign_Name (thn (he pins s σ H _ I h) fun v s1 ⟨y, H1, I1, r1, q1⟩ => ?_) hs
  exact store_ok I1 hN hi hx r1 (fun s2 I2 => ⟨_, H1, I2, q1⟩) hf
/-- a, b = x, y with plain local names: stored from the right; the pair itself is not tracked (the opening rows as in PyProof/Rows/TupAssign.lean:23) -/
def tPar (i j : Nat) (ta : TA) : TS := fun D σ H => ta σ H fun vs H1 => ∃ v w, vs = [v, w] ∧ D.nx ((σ.set i (some v)).set j (some w)) H1
theorem ps_par {i j : Nat} {x y : Str} {a b : Expr} {ta : TA} {px py pt : Pos} {kt k2 pt2} (hc : X.calm = true) (hN : X.N.Nodup) (hi : X.N[i]? = some x) (hj : X.N[j]? = some y) (hij : i ≠ j)
    (hx : X.env.scope.names.lookup x = some .local) (hy : X.env.scope.names.lookup y = some .local) (ha : PA X [a, b] ta)
    (hw : swappedStores [.Tuple [.Name x px, .Name y py] kt pt] (.Tuple [a, b] k2 pt2) X.env = pure (some [x, y]))
    (hs : swapsWithSole [.Tuple [.Name x px, .Name y py] kt pt] (.Tuple [a, b] k2 pt2) pos.line X.env = pure false := by rfl) :
    PS X (.Assign [.Tuple [.Name x px, .Name y py] kt pt] (.Tuple [a, b] k2 pt2) pos) (tPar i j ta) := by
  intro pins s σ H D I h
  rw [exec_Assign_arm]
  refine wpAny_bind (wpAny_standAt ?_)
  rw [hs]
  refine wpAny_bind (wpAny_pure ?_)
  rw [if_neg (by decide)]
  refine wpAny_bind (Tuple_ (thn (ha _ pins s σ H _ I h) fun us s1 ⟨vs, H1, I1, r1, q1⟩ => ?_))
  obtain ⟨v, w, e1, q1⟩ := q1
  subst e1
  obtain ⟨u1, u2, rfl, rv, rw'⟩ : ∃ u1 u2, us = [u1, u2] ∧ RelV v u1 ∧ RelV w u2 := by
    cases r1 with
    | cons p q =>
      cases q with
      | cons p' q' =>
        cases q'
        exact ⟨_, _, rfl, p, p'⟩
  refine wpAny_newObj_type ?_ (by show 2 ≤ sizeLine; decide)
  have I2 : Inv X pins σ H1 { s1 with heap := s1.heap.push { cls := .type "tuple", data := .seq [u1, u2].toArray } } := I1.kept (t' := s1.toks) fun b o e => Heap.get?_push_of_some _ e
  rw [hw]
  refine wpAny_bind (wpAny_pure ?_)
  show wpAny (model X.prog X.w) X.A (do rule "assign.swapped-stores"; let items ← unpackItems (.ref s1.heap.objs.size) 2 none; assignInOrder [fun v => bindName X.env y v, fun v => bindName X.env x v] items.reverse; pure Flow.next) _ _ _
  refine wpAny_bind (wpAny_rule (wpAny_bind (unpackItems_tuple (items := #[u1, u2]) (I.ok.hd hc) (IsTup.new s1.heap _) fun h' hx' => ?_)))
  have I3 := I2.kept (h' := h') (t' := s1.toks) fun b o e => hx' b o (Nat.ne_of_lt (Heap.lt_size e)) e
  show wpAny _ _ (assignInOrder [fun v => bindName X.env y v, fun v => bindName X.env x v] [u2, u1] >>= fun _ => pure Flow.next) _ _ _
  refine wpAny_bind (assignInOrder_cons (wpAny_bindName (store_ok I3 hN hj (.inl hy) rw' (fun s2 I4 => ?_) (.inr hy))))
  refine assignInOrder_cons (wpAny_bindName (store_ok I4 hN hi (.inl hx) rv (fun s3 I5 => assignInOrder_nil (wpAny_pure ?_)) (.inr hx)))
  rw [List.set_comm _ _ (Ne.symm hij)] at I5
  exact ⟨_, H1, I5, q1⟩
/-- name op= e -/
def tAug (i : Nat) (te : TE) (ti : TIp) : TS := fun D σ H => ∃ x, σ[i]? = some (some x) ∧ te σ H fun y H1 => ti x y H1 fun z H2 => D.nx (σ.set i (some z)) H2
theorem ps_aug {i : Nat} {x : Str} {e : Expr} {te : TE} {op : Operator} {ti : TIp} {pos' : Pos} (hN : X.N.Nodup) (hi : X.N[i]? = some x) (hx : Loc X.env.scope x) (he : PE X e te) (ho : PIp X op ti) (hf : X.fn x = true ∨ X.env.scope.names.lookup x = some .local := by first | exact .inl rfl | exact .inr rfl | assumption) :
    PS X (.AugAssign (.Name x pos') op e pos) (tAug i te ti) := by
  intro pins s σ H D I h
  obtain ⟨v, e1, h⟩ := h
  obtain ⟨m, hn, hl⟩ := I.loc
  have vis : Vis X.env.scope x := by rcases hx with k | k; exact .inl k; exact .inr (.inl k)
  obtain ⟨u, r, l⟩ := hl i x v hi e1 vis
  refine wpAny_AugAssign_Name ?_
  have go : wpAny (model X.prog X.w) X.A (eval e X.env) (fun w s₂ => wpAny (model X.prog X.w) X.A (inplaceOp op u w) (fun r s₃ => wpAny (model X.prog X.w) X.A (storeName X.env x r) (fun _ => SP X pins D .next) X.xe s₃) X.xe s₂) X.xe s := by
    refine thn (he pins s σ H _ I h) fun w s1 ⟨y, H1, I1, r1, q1⟩ => ?_
    refine thn (ho pins s1 σ H1 v y u w _ I1 r r1 q1) fun z s2 ⟨zv, H2, I2, r2, q2⟩ => ?_
    exact store_ok I2 hN hi hx r2 (fun s3 I3 => ⟨_, H2, I3, q2⟩) hf
  rcases l with ⟨hk, hm⟩ | ⟨hk, c, hc, hcell⟩
  · exact wpAny_loadName_local I.ok.kind hk hn hm go
  · rcases hk with hk | hk
    · exact wpAny_loadName_cell I.ok.kind hk hc hcell go
    · rcases hx with k | k
      · have : X.env.scope.names.lookup x = some .free := hk
        rw [k] at this; cases this
      · have : X.env.scope.names.lookup x = some .free := hk
        rw [k] at this; cases this
/-- ints -/
def ipI (f : Int → Int → Int) : TIp := fun x y H Q => ∃ i j, x = .int i ∧ y = .int j ∧ Q (.int (f i j)) H
theorem ip_add : PIp X .Add (ipI fun i j => i + j) := by
  intro pins s σ H x y v u Q I r1 r2 h
  obtain ⟨i, j, e1, e2, q⟩ := h
  subst e1; subst e2
  obtain ⟨t, rfl⟩ := r1
  obtain ⟨t', rfl⟩ := r2
  exact iadd_int ⟨.int _, H, I.tok _, ⟨_, rfl⟩, q⟩
end

/-! ### while -/
section
variable {X : Cx} {pos : Pos}
/-- the invariant W with its measure -/
def tWhile (c : TT) (tb : TS) : TS := fun D σ H => ∃ W : Nat → St → Hp → Prop, (∃ m, W m σ H) ∧ ∀ m σ H, W m σ H →
  c σ H fun b H1 => if b = true then ∃ N : St → Hp → Prop, (∀ σ' H', N σ' H' → ∃ m', m' < m ∧ W m' σ' H') ∧ tb { D with nx := N, ct := N, bk := D.nx } σ H1 else D.nx σ H1
theorem ps_while {c : Expr} {body : List Stmt} {tc : TT} {tb : TS} (hp : PassesOwn (model X.prog X.w) X.A X.env X.xe) (hc : PT X c tc) (hb : PSs X body tb) : PS X (.While c body [] pos) (tWhile tc tb) := by
  intro pins s σ H D I h
  obtain ⟨W, ⟨m0, w0⟩, turn⟩ := h
  refine wpAny_While (codeAny_whileLoop (fun n s' => ∃ σ' H', Inv X pins σ' H' s' ∧ W n σ' H') ?_ m0 ⟨σ, H, I, w0⟩)
  rintro n s1 ⟨σ1, H1, I1, w1⟩
  refine wpAny_passesOwn hp (thn (hc pins s1 σ1 H1 _ I1 (turn n σ1 H1 w1)) fun b s2 ⟨H2, I2, q2⟩ => ?_)
  cases b with
  | true =>
    obtain ⟨N, hN, q2⟩ := q2
    rw [if_pos rfl]
    refine wpAny_passesOwn hp (thn (hb pins s2 σ1 H2 _ I2 q2) fun f s3 q3 => ?_)
    cases f with
    | next =>
      obtain ⟨σ3, H3, I3, n3⟩ := q3
      obtain ⟨m', hm, w3⟩ := hN σ3 H3 n3
      exact ⟨m', hm, σ3, H3, I3, w3⟩
    | cont =>
      obtain ⟨σ3, H3, I3, n3⟩ := q3
      obtain ⟨m', hm, w3⟩ := hN σ3 H3 n3
      exact ⟨m', hm, σ3, H3, I3, w3⟩
    | brk => exact q3
    | ret v => exact q3
  | false =>
    rw [if_neg Bool.false_ne_true]
    exact wpAny_execs_nil ⟨σ1, H2, I2, q2⟩
end

/-! ### what a loop or a comprehension walks -/
/-- at turn i: it yields x (the heap may grow), or it stops -/
structure It where
  go : Nat → Hp → Prop
  yld : Nat → Hp → V → Hp → Prop
  stop : Nat → Hp → Prop
/-- the iterator's own objects may turn: they are not the frame's, not pinned, younger than the entry (or a comprehension's own) -/
def FpOk (X : Cx) (pins : List (Addr × Obj)) (H : Hp) (b : Addr) : Prop :=
  H b = none ∧ b ≠ X.env.locals ∧ b ∉ X.fs ∧ (b ∈ X.ex ∨ X.s_0.heap.objs.size ≤ b) ∧ (∀ x c, X.env.cells.lookup x = some c → c ≠ b) ∧ ∀ p ∈ X.pn ++ pins, p.1 ≠ b
theorem Inv.fpOk {X : Cx} {pins : List (Addr × Obj)} {σ : St} {H H' : Hp} {s : Shared} {b : Addr} (I : Inv X pins σ H s) (hb : s.heap.objs.size ≤ b) (hn : H' b = none) : FpOk X pins H' b := by
  refine ⟨hn, Nat.ne_of_gt (Nat.lt_of_lt_of_le I.lt hb), I.nofs hb, .inr (Nat.le_trans I.sz hb), fun x c e z => ?_, fun p hp z => ?_⟩
  · obtain ⟨v, q⟩ := I.cell x c e
    exact absurd (Nat.lt_of_lt_of_le q.lt (by rw [z]; exact hb)) (Nat.lt_irrefl _)
  · exact absurd (Nat.lt_of_lt_of_le (Heap.lt_size (I.pin p hp).1) (by rw [z]; exact hb)) (Nat.lt_irrefl _)
structure Turn (P : Program) (w : World) (K : PySem.W.Frag) (tg : Expr) (J : It) (fp : List Addr) (it : Addr) (tn : Nat → Heap → Prop) : Prop where
  mem : it ∈ fp
  obj : ∀ i h, tn i h → ∀ b ∈ fp, ∃ o, h.get? b = some o ∧ ∀ v, o.data ≠ .cell v
  keep : ∀ i h h', tn i h → (∀ b ∈ fp, ∀ o, h.get? b = some o → h'.get? b = some o) → tn i h'
  item : ∀ (X : Cx), X.prog = P → X.w = w → X.K = K → X.calm = true → ∀ (i : Nat) (pins : List (Addr × Obj)) (s : Shared) (σ : St) (H : Hp) (E : Value → Shared → Prop), Inv X pins σ H s → (∀ b ∈ fp, FpOk X pins H b) → tn i s.heap → J.go i H →
    wpAny (model P w) X.A (pyNext (.ref it)) (fun r s1 => ∃ u, r = some u ∧
      wpAny (model P w) X.A (letOwnedTupleGo tg (.ref it) u) (fun _ s2 => ∃ x H', Inv X pins σ H' s2 ∧ RelV x u ∧ J.yld i H x H' ∧ tn (i + 1) s2.heap ∧ ∀ b ∈ fp, H' b = none) E s1) E s
  done : ∀ (X : Cx), X.prog = P → X.w = w → X.K = K → X.calm = true → ∀ (i : Nat) (pins : List (Addr × Obj)) (s : Shared) (σ : St) (H : Hp) (E : Value → Shared → Prop), Inv X pins σ H s → (∀ b ∈ fp, FpOk X pins H b) → tn i s.heap → J.stop i H →
    wpAny (model P w) X.A (pyNext (.ref it)) (fun r s1 => r = none ∧ Inv X pins σ H s1) E s
  self : ∀ (A : Around) (i : Nat) (s : Shared) (Q : Value → Shared → Prop) (E : Value → Shared → Prop), tn i s.heap → Q (.ref it) s → wpAny (model P w) A (pyIter (.ref it)) Q E s
abbrev TI := St → Hp → (It → Hp → Prop) → Prop
/-- an iterator has come -/
def PIE (X : Cx) (pins : List (Addr × Obj)) (σ : St) (tg : Expr) (R : It → Hp → Prop) (itv : Value) (s2 : Shared) : Prop :=
  ∃ (it : Addr) (fp : List Addr) (tn : Nat → Heap → Prop) (J : It) (H' : Hp), itv = .ref it ∧ Inv X pins σ H' s2 ∧ Turn X.prog X.w X.K tg J fp it tn ∧ tn 0 s2.heap ∧ (∀ b ∈ fp, FpOk X pins H' b) ∧ R J H'
def PI (X : Cx) (tg iter : Expr) (wi : TI) : Prop :=
  ∀ (pins : List (Addr × Obj)) (s : Shared) (σ : St) (H : Hp) (R : It → Hp → Prop), Inv X pins σ H s → wi σ H R →
    wpAny (model X.prog X.w) X.A (eval iter X.env) (fun v s1 => wpAny (model X.prog X.w) X.A (pyIter v) (PIE X pins σ tg R) X.xe s1) X.xe s

/-- the step ahead of the store is nothing for an iterator that keeps no tuple -/
theorem go_of {M : Model} {A : Around} {E : Value → Shared → Prop} {s : Shared} {tg : Expr} {it : Addr} {u : Value} {o : Obj} {n : String} {vs : Array Value} {Q : Unit → Shared → Prop} (ho : s.heap.get? it = some o) (hc : o.cls = .type n) (hd : o.data = .fields vs)
    (hn : ["enumerate", "zip", "dict_itemiterator", "dict_reverseitemiterator", "odict_iterator", "itertools.zip_longest", "itertools.pairwise"].contains n = false) (hQ : Q () s) : wpAny M A (letOwnedTupleGo tg (.ref it) u) Q E s := by
  unfold letOwnedTupleGo
  cases tg <;> first
    | exact wpAny_pure hQ
    | (cases u <;> first
        | exact wpAny_pure hQ
        | (refine wpAny_bind (wpAny_load ho ?_)
           rw [hc, hd]
           show wpAny M A (if (["enumerate", "zip", "dict_itemiterator", "dict_reverseitemiterator", "odict_iterator", "itertools.zip_longest", "itertools.pairwise"].contains n && vs[0]? == some (rawInt _)) = true then _ else _) Q E s
           rw [if_neg (by intro h; rw [hn, Bool.false_and] at h; cases h)]
           exact wpAny_pure hQ))

/-- the list at a, as it stands at each turn (a loop may append to it) -/
def Itl (K : PySem.W.Frag) (a : Addr) : It :=
  ⟨fun i H => ∃ xs x, SqL K H a xs ∧ xs[i]? = some x, fun i H x H' => H' = H ∧ ∀ xs, SqL K H a xs → xs[i]? = some x, fun i H => ∃ xs, SqL K H a xs ∧ xs.length ≤ i⟩
def Itt (K : PySem.W.Frag) (a : Addr) : It :=
  ⟨fun i H => ∃ xs x, SqT K H a xs ∧ xs[i]? = some x, fun i H x H' => H' = H ∧ ∀ xs, SqT K H a xs → xs[i]? = some x, fun i H => ∃ xs, SqT K H a xs ∧ xs.length ≤ i⟩
/-- lo, lo + 1, .. (n of them) -/
def Itr (lo : Int) (n : Nat) : It := ⟨fun i _ => i < n, fun i H x H' => H' = H ∧ x = .int (lo + i), fun i _ => n ≤ i⟩
theorem turn_list {P : Program} {w : World} {K : PySem.W.Frag} {tg : Expr} (a it : Addr) : Turn P w K tg (Itl K a) [it] it (fun i h => h.IsListIter it a i) where
  mem := by simp
  obj := fun i h st b hb => by
    have e : b = it := by simpa using hb
    subst e
    obtain ⟨o, e, c, d⟩ := st
    exact ⟨o, e, fun v z => by rw [d] at z; cases z⟩
  keep := fun i h h' st k => st.at fun o e => k it (by simp) o e
  item := by
    intro X hP hw hK hc i pins s σ H E I hf st hg
    subst hP hw hK
    obtain ⟨xs, x, hq, hx⟩ := hg
    obtain ⟨its, rv, p, hz⟩ := I.list hq
    obtain ⟨u, hu, ru⟩ := rv.get hx
    obtain ⟨f0, f1, f2, f3, f4, f5⟩ := hf it (by simp)
    refine wpAny_pyNext_list_item st p.isList (x := u) (by simpa using hu) fun h' st' sb => ?_
    have I1 : Inv X pins σ H { s with heap := h' } := I.turned (t' := s.toks) (fun b o hb e => (sb.2 b hb).trans e) f0 f1 f3 f4 f5
    obtain ⟨o, e, c, d⟩ := id st'
    exact ⟨u, rfl, go_of (s := { s with heap := h' }) e c d (by decide) ⟨x, H, I1, ru, ⟨rfl, fun ys hy => by rw [I.list_inj hy hq]; exact hx⟩, st', fun b hb => (hf b hb).1⟩⟩
  done := by
    intro X hP hw hK hc i pins s σ H E I hf st hg
    subst hP hw hK
    obtain ⟨xs, hq, hx⟩ := hg
    obtain ⟨its, rv, p, hz⟩ := I.list hq
    obtain ⟨f0, f1, f2, f3, f4, f5⟩ := hf it (by simp)
    have hl := rv.length
    exact wpAny_pyNext_list_end (I.ok.hd hc) st p.isList (by simp; omega) fun h' eb => ⟨rfl, I.turned (t' := s.toks) (fun b o hb e => eb b o hb e) f0 f1 f3 f4 f5⟩
  self := fun _ _ _ _ _ st h => wpAny_pyIter_listiter st h
theorem turn_tuple {P : Program} {w : World} {K : PySem.W.Frag} {tg : Expr} (a it : Addr) : Turn P w K tg (Itt K a) [it] it (fun i h => h.IsTupleIter it a i) where
  mem := by simp
  obj := fun i h st b hb => by
    have e : b = it := by simpa using hb
    subst e
    obtain ⟨o, e, c, d⟩ := st
    exact ⟨o, e, fun v z => by rw [d] at z; cases z⟩
  keep := fun i h h' st k => st.at fun o e => k it (by simp) o e
  item := by
    intro X hP hw hK hc i pins s σ H E I hf st hg
    subst hP hw hK
    obtain ⟨xs, x, hq, hx⟩ := hg
    obtain ⟨its, rv, p, hz⟩ := I.tuple hq
    obtain ⟨u, hu, ru⟩ := rv.get hx
    obtain ⟨f0, f1, f2, f3, f4, f5⟩ := hf it (by simp)
    refine wpAny_pyNext_tuple_item st (show s.heap.IsTuple a its.toArray from p) (x := u) (by simpa using hu) fun h' st' sb => ?_
    have I1 : Inv X pins σ H { s with heap := h' } := I.turned (t' := s.toks) (fun b o hb e => (sb.2 b hb).trans e) f0 f1 f3 f4 f5
    obtain ⟨o, e, c, d⟩ := id st'
    exact ⟨u, rfl, go_of (s := { s with heap := h' }) e c d (by decide) ⟨x, H, I1, ru, ⟨rfl, fun ys hy => by rw [I.tuple_inj hy hq]; exact hx⟩, st', fun b hb => (hf b hb).1⟩⟩
  done := by
    intro X hP hw hK hc i pins s σ H E I hf st hg
    subst hP hw hK
    obtain ⟨xs, hq, hx⟩ := hg
    obtain ⟨its, rv, p, hz⟩ := I.tuple hq
    obtain ⟨f0, f1, f2, f3, f4, f5⟩ := hf it (by simp)
    have hl := rv.length
    exact wpAny_pyNext_tuple_end (I.ok.hd hc) st (show s.heap.IsTuple a its.toArray from p) (by simp; omega) fun h' eb => ⟨rfl, I.turned (t' := s.toks) (fun b o hb e => eb b o hb e) f0 f1 f3 f4 f5⟩
  self := fun _ _ _ _ _ st h => wpAny_pyIter_tupleiter st h
theorem turn_range {P : Program} {w : World} {K : PySem.W.Frag} {tg : Expr} (it : Addr) (lo : Int) (n : Nat) : Turn P w K tg (Itr lo n) [it] it (fun i h => IsRangeIter h it (lo + (i : Nat) * 1) ((n : Int) - (i : Nat)) 1) where
  mem := by simp
  obj := fun i h st b hb => by
    have e : b = it := by simpa using hb
    subst e
    exact ⟨_, st, fun v z => by
      have z' : Data.fields _ = Data.cell v := z
      cases z'⟩
  keep := fun i h h' st k => k it (by simp) _ st
  item := by
    intro X hP hw hK hc i pins s σ H E I hf st hg
    subst hP hw hK
    obtain ⟨f0, f1, f2, f3, f4, f5⟩ := hf it (by simp)
    have W := Walks.range (prog := X.prog) (w := X.w) (I.ok.hd hc) it lo 1 n
    refine W.item i s _ _ hg st fun v h' tk hv st' kk => ?_
    obtain ⟨t, rfl⟩ := hv
    have I1 : Inv X pins σ H { s with heap := h', toks := tk } := I.turned (fun b o hb e => kk b o (by simpa using hb) e) f0 f1 f3 f4 f5
    refine ⟨_, rfl, go_of (s := { s with heap := h', toks := tk }) (n := "range_iterator") st' rfl rfl (by decide) ⟨.int (lo + i), H, I1, ⟨t, ?_⟩, ⟨rfl, rfl⟩, st', fun b hb => (hf b hb).1⟩⟩
    rw [Int.mul_one]
  done := by
    intro X hP hw hK hc i pins s σ H E I hf st hg
    subst hP hw hK
    obtain ⟨f0, f1, f2, f3, f4, f5⟩ := hf it (by simp)
    exact wpAny_pyNext_range_end (I.ok.hd hc) st (by have : n ≤ i := hg; omega) fun h' eb => ⟨rfl, I.turned (t' := s.toks) (fun b o hb e => eb b o hb e) f0 f1 f3 f4 f5⟩
  self := fun _ _ _ _ _ st h => wpAny_pyIter_rangeiter st h
end L2

namespace L2
open PySem PySem.Spec PyProof.Rows
section
variable {X : Cx} {tg : Expr}
def iList (K : PySem.W.Frag) (tl : TE) : TI := fun σ H R => tl σ H fun x H1 => ∃ a, x = .ref a ∧ (∃ xs, SqL K H1 a xs) ∧ R (Itl K a) H1
def iTup (K : PySem.W.Frag) (tl : TE) : TI := fun σ H R => tl σ H fun x H1 => ∃ a, x = .ref a ∧ (∃ xs, SqT K H1 a xs) ∧ R (Itt K a) H1
theorem pi_list {l : Expr} {tl : TE} (hl : PE X l tl) : PI X tg l (iList X.K tl) := by
  intro pins s σ H R I h
  refine thn (hl pins s σ H _ I h) fun v s1 ⟨x, H1, I1, r1, q1⟩ => ?_
  obtain ⟨a, e, ⟨xs, hq⟩, q⟩ := q1
  subst e
  cases r1
  obtain ⟨its, rv, p, hz⟩ := I1.list hq
  refine wpAny_pyIter_list p.isList ?_
  refine ⟨s1.heap.objs.size, [s1.heap.objs.size], _, _, H1, rfl, I1.kept (t' := s1.toks) fun b o e => Heap.get?_push_of_some _ e, turn_list a _, ⟨_, Heap.get?_push_size _ rfl, rfl, rfl⟩, fun b hb => ?_, q⟩
  have e : b = s1.heap.objs.size := by simpa using hb
  subst e
  exact I1.fpOk (Nat.le_refl _) (I1.hok.fresh (Nat.le_refl _))
theorem pi_tup {l : Expr} {tl : TE} (hl : PE X l tl) : PI X tg l (iTup X.K tl) := by
  intro pins s σ H R I h
  refine thn (hl pins s σ H _ I h) fun v s1 ⟨x, H1, I1, r1, q1⟩ => ?_
  obtain ⟨a, e, ⟨xs, hq⟩, q⟩ := q1
  subst e
  cases r1
  obtain ⟨its, rv, p, hz⟩ := I1.tuple hq
  refine wpAny_pyIter_tuple (show s1.heap.IsTuple a its.toArray from p) ?_
  refine ⟨s1.heap.objs.size, [s1.heap.objs.size], _, _, H1, rfl, I1.kept (t' := s1.toks) fun b o e => Heap.get?_push_of_some _ e, turn_tuple a _, ⟨_, Heap.get?_push_size _ rfl, rfl, rfl⟩, fun b hb => ?_, q⟩
  have e : b = s1.heap.objs.size := by simpa using hb
  subst e
  exact I1.fpOk (Nat.le_refl _) (I1.hok.fresh (Nat.le_refl _))
/-- a range object just made, walked -/
theorem range_it {pins : List (Addr × Obj)} {σ : St} {H : Hp} {s : Shared} {R : It → Hp → Prop} {E : Value → Shared → Prop} {lo hi : Int} {t u v : Tok} {tk : Nat} (I : Inv X pins σ H s) (h1 : -(2 ^ 62) ≤ lo) (h2 : lo < 2 ^ 62) (h3 : -(2 ^ 62) ≤ hi) (h4 : hi < 2 ^ 62)
    (q : R (Itr lo (hi - lo).toNat) H) : wpAny (model X.prog X.w) X.A (pyIter (.ref s.heap.objs.size)) (PIE X pins σ tg R) E { s with heap := s.heap.push { cls := .type "range", data := .fields #[.int lo t, .int hi u, .int 1 v] }, toks := tk } := by
  refine wpAny_pyIter_range (IsRange.new ..) (small_one h1 h2 h3 h4) ?_
  have I1 : Inv X pins σ H { s with heap := s.heap.push { cls := .type "range", data := .fields #[.int lo t, .int hi u, .int 1 v] }, toks := tk } := I.kept fun b o e => Heap.get?_push_of_some _ e
  refine ⟨(s.heap.push { cls := .type "range", data := .fields #[.int lo t, .int hi u, .int 1 v] }).objs.size, [(s.heap.push { cls := .type "range", data := .fields #[.int lo t, .int hi u, .int 1 v] }).objs.size], _, _, H, rfl,
    I1.kept (t' := tk) fun b o e => Heap.get?_push_of_some _ e, turn_range _ lo (hi - lo).toNat, ?_, fun b hb => ?_, q⟩
  · have e1 : lo + ((0 : Nat) : Int) * 1 = lo := by simp
    have e2 : (((hi - lo).toNat : Nat) : Int) - ((0 : Nat) : Int) = Builtin.Range.rangeSize lo hi 1 := by rw [rangeSize_one]; split <;> omega
    show IsRangeIter _ _ (lo + ((0 : Nat) : Int) * 1) ((((hi - lo).toNat : Nat) : Int) - ((0 : Nat) : Int)) 1
    rw [e1, e2]
    exact Heap.get?_push_size _ rfl
  · have e : b = (s.heap.push { cls := .type "range", data := .fields #[.int lo t, .int hi u, .int 1 v] }).objs.size := by simpa using hb
    subst e
    exact I1.fpOk (Nat.le_refl _) (I1.hok.fresh (Nat.le_refl _))
def iRng1 (ta : TA) : TI := fun σ H R => ta σ H fun vs H1 => ∃ j : Int, vs = [.int j] ∧ -(2 ^ 62) ≤ j ∧ j < 2 ^ 62 ∧ R (Itr 0 j.toNat) H1
theorem pi_range1 {a : Expr} {ta : TA} {p pos : Pos} (hg : Gl X "range") (hm : X.mg "range" = none) (ha : PA X [a] ta) (hs : starEach [a] X.env = [(false, eval a X.env)] := by rfl) : PI X tg (.Call (.Name "range" p) [a] [] pos) (iRng1 ta) := by
  intro pins s σ H R I h
  refine Call_ (ld_blt I hg hm boot_range (PyProof.Rows.callWith_type1 (thn (ha pos pins s σ H _ I h) fun us s1 ⟨vs, H1, I1, r1, q1⟩ => ?_) hs rfl))
  obtain ⟨j, e, q1, q2, q⟩ := q1
  subst e
  cases r1 with
  | cons r rr =>
    cases rr
    obtain ⟨t, rfl⟩ := r
    exact call_range_1 (range_it I1 (by omega) (by omega) q1 q2 (by simpa using q))

/-! ### for -/
/-- W: the invariant by the turn and a measure; N: what the body is to reach -/
def tFor (wi : TI) (g : TG) (tb : TS) : TS := fun D σ H => wi σ H fun J H1 => ∃ W : Nat → Nat → St → Hp → Prop, (∃ m, W 0 m σ H1) ∧ ∀ i m σ H, W i m σ H →
  (J.stop i H ∧ D.nx σ H) ∨ (J.go i H ∧ ∃ N : St → Hp → Prop, (∀ σ' H', N σ' H' → ∃ m', m' < m ∧ W (i + 1) m' σ' H') ∧ ∀ x H', J.yld i H x H' → g x σ H' fun σ2 H2 => tb { D with nx := N, ct := N, bk := D.nx } σ2 H2)
/-- the records at fp as they stand -/
def pinsAt (fp : List Addr) (h : Heap) : List (Addr × Obj) := fp.filterMap fun b => (h.get? b).map fun o => (b, o)
theorem mem_pinsAt {fp : List Addr} {h : Heap} {b : Addr} {o : Obj} (hb : b ∈ fp) (e : h.get? b = some o) : (b, o) ∈ pinsAt fp h := List.mem_filterMap.mpr ⟨b, hb, by rw [e]; rfl⟩
theorem of_pinsAt {fp : List Addr} {h : Heap} {p : Addr × Obj} (hp : p ∈ pinsAt fp h) : p.1 ∈ fp ∧ h.get? p.1 = some p.2 := by
  obtain ⟨b, hb, e⟩ := List.mem_filterMap.mp hp
  cases q : h.get? b with
  | none => rw [q] at e; cases e
  | some o =>
    rw [q] at e
    have e' : (b, o) = p := Option.some.inj e
    subst e'
    exact ⟨hb, q⟩
theorem Inv.pinned {pins : List (Addr × Obj)} {σ : St} {H : Hp} {s : Shared} {fp : List Addr} (I : Inv X pins σ H s) (hf : ∀ b ∈ fp, FpOk X pins H b) (ho : ∀ b ∈ fp, ∃ o, s.heap.get? b = some o ∧ ∀ v, o.data ≠ .cell v) : Inv X (pins ++ pinsAt fp s.heap) σ H s :=
  I.pins_of fun p hp => (List.mem_append.mp hp).elim (fun z => I.pin p (List.mem_append_right _ z)) fun z => by
    obtain ⟨hb, e⟩ := of_pinsAt z
    obtain ⟨f0, f1, f2, _⟩ := hf p.1 hb
    obtain ⟨o, e', d⟩ := ho p.1 hb
    rw [e] at e'; cases e'
    exact ⟨e, f0, f1, f2, d⟩
theorem Inv.unpinned {pins pl : List (Addr × Obj)} {σ : St} {H : Hp} {s : Shared} (I : Inv X (pins ++ pl) σ H s) : Inv X pins σ H s := I.pins_of fun p hp => I.pin p (List.mem_append_right _ (List.mem_append_left _ hp))
theorem ps_for {iter : Expr} {body : List Stmt} {wi : TI} {g : TG} {tb : TS} {pos : Pos} (hp : PassesOwn (model X.prog X.w) X.A X.env X.xe) (hc : X.calm = true) (hi : PI X tg iter wi) (hg : PG X tg g) (hb : PSs X body tb)
    (hs : ∀ x, foldedSetIterable iter X.env x = pure x := by intro _; rfl) : PS X (.For tg iter body [] pos) (tFor wi g tb) := by
  intro pins s σ H D I h
  refine wpAny_For (thn (hi pins s σ H _ I h) fun v s1 h1 => thn h1 fun itv s2 h2 => ?_) hs
  obtain ⟨it, fp, tn, J, H2, e, I2, T, st2, f2, W, ⟨m0, w0⟩, turn⟩ := h2
  subst e
  -- what stays true of the iterator's objects through the loop
  have stat : ∀ {H' : Hp}, (∀ b ∈ fp, H' b = none) → ∀ b ∈ fp, FpOk X pins H' b := fun hn b hb => ⟨hn b hb, (f2 b hb).2⟩
  refine codeAny_forLoop_any (fun n s' => ∃ i σ' H', Inv X pins σ' H' s' ∧ tn i s'.heap ∧ (∀ b ∈ fp, H' b = none) ∧ W i n σ' H') ?_ m0 ⟨0, σ, H2, I2, st2, fun b hb => (f2 b hb).1, w0⟩
  rintro n s3 ⟨i, σ3, H3, I3, st3, fr3, w3⟩
  rcases turn i n σ3 H3 w3 with ⟨stop, qn⟩ | ⟨go, N, hN, step⟩
  · refine wpAny_passesOwn hp (thn (T.done X rfl rfl rfl hc i pins s3 σ3 H3 X.xe I3 (stat fr3) st3 stop) fun r s4 ⟨hr, I4⟩ => ?_)
    subst hr
    exact wpAny_execs_nil ⟨σ3, H3, I4, qn⟩
  · refine wpAny_passesOwn hp (thn (T.item X rfl rfl rfl hc i pins s3 σ3 H3 X.xe I3 (stat fr3) st3 go) fun r s4 ⟨u, hr, h4⟩ => ?_)
    subst hr
    refine wpAny_passesOwn hp (thn h4 fun _ s5 ⟨x, H5, I5, r5, y5, st5, fr5⟩ => ?_)
    have I5' := I5.pinned (stat fr5) (T.obj _ _ st5)
    refine wpAny_passesOwn hp (thn (hg _ s5 σ3 H5 x u _ I5' r5 (step x H5 y5)) fun _ s6 ⟨σ6, H6, I6, q6⟩ => ?_)
    refine wpAny_passesOwn hp (thn (hb _ s6 σ6 H6 _ I6 q6) fun f s7 q7 => ?_)
    have again : ∀ {σ7 : St} {H7 : Hp}, Inv X (pins ++ pinsAt fp s5.heap) σ7 H7 s7 → N σ7 H7 → ∃ m, m < n ∧ ∃ i σ' H', Inv X pins σ' H' s7 ∧ tn i s7.heap ∧ (∀ b ∈ fp, H' b = none) ∧ W i m σ' H' := fun {σ7 H7} I7 n7 => by
      obtain ⟨m', hm, w7⟩ := hN σ7 H7 n7
      refine ⟨m', hm, i + 1, σ7, H7, I7.unpinned, T.keep _ _ _ st5 fun b hb o e => (I7.pin (b, o) (List.mem_append_right _ (List.mem_append_right _ (mem_pinsAt hb e)))).1, fun b hb => ?_, w7⟩
      obtain ⟨o, e, d⟩ := T.obj _ _ st5 b hb
      exact (I7.pin (b, o) (List.mem_append_right _ (List.mem_append_right _ (mem_pinsAt hb e)))).2.1
    cases f with
    | next => obtain ⟨σ7, H7, I7, n7⟩ := q7; exact again I7 n7
    | cont => obtain ⟨σ7, H7, I7, n7⟩ := q7; exact again I7 n7
    | brk => obtain ⟨σ7, H7, I7, q7⟩ := q7; exact ⟨σ7, H7, I7.unpinned, q7⟩
    | ret v => obtain ⟨x7, σ7, H7, I7, r7, q7⟩ := q7; exact ⟨x7, σ7, H7, I7.unpinned, r7, q7⟩
end

/-! ### the forms one uses -/
/-- over a list that the body leaves as it is -/
theorem for_list {K : PySem.W.Frag} {a : Addr} {xs : List V} {g : TG} {tb : TS} {D : Ends} {σ : St} {H : Hp} (Pv : Nat → St → Hp → Prop) (h0 : Pv 0 σ H) (hl : ∀ i σ H, i ≤ xs.length → Pv i σ H → SqL K H a xs)
    (hs : ∀ i x σ H, xs[i]? = some x → Pv i σ H → g x σ H fun σ2 H2 => tb { D with nx := Pv (i + 1), ct := Pv (i + 1), bk := D.nx } σ2 H2) (hd : ∀ σ H, Pv xs.length σ H → D.nx σ H) :
    ∃ W : Nat → Nat → St → Hp → Prop, (∃ m, W 0 m σ H) ∧ ∀ i m σ H, W i m σ H →
      ((Itl K a).stop i H ∧ D.nx σ H) ∨ ((Itl K a).go i H ∧ ∃ N : St → Hp → Prop, (∀ σ' H', N σ' H' → ∃ m', m' < m ∧ W (i + 1) m' σ' H') ∧ ∀ x H', (Itl K a).yld i H x H' → g x σ H' fun σ2 H2 => tb { D with nx := N, ct := N, bk := D.nx } σ2 H2) := by
  refine ⟨fun i m σ H => m = xs.length - i ∧ i ≤ xs.length ∧ Pv i σ H, ⟨xs.length, by simp, Nat.zero_le _, h0⟩, ?_⟩
  rintro i m σ H ⟨rfl, hi, p⟩
  have q := hl i σ H hi p
  by_cases hlt : i < xs.length
  · refine .inr ⟨⟨xs, xs[i], q, by simp [hlt]⟩, Pv (i + 1), fun σ' H' p' => ⟨xs.length - (i + 1), by omega, rfl, hlt, p'⟩, fun x H' y => ?_⟩
    obtain ⟨e, y⟩ := y
    subst e
    exact hs i x σ _ (y xs q) p
  · have e : i = xs.length := by omega
    subst e
    exact .inl ⟨⟨xs, q, Nat.le_refl _⟩, hd σ H p⟩
theorem for_tup {K : PySem.W.Frag} {a : Addr} {xs : List V} {g : TG} {tb : TS} {D : Ends} {σ : St} {H : Hp} (Pv : Nat → St → Hp → Prop) (h0 : Pv 0 σ H) (hl : ∀ i σ H, i ≤ xs.length → Pv i σ H → SqT K H a xs)
    (hs : ∀ i x σ H, xs[i]? = some x → Pv i σ H → g x σ H fun σ2 H2 => tb { D with nx := Pv (i + 1), ct := Pv (i + 1), bk := D.nx } σ2 H2) (hd : ∀ σ H, Pv xs.length σ H → D.nx σ H) :
    ∃ W : Nat → Nat → St → Hp → Prop, (∃ m, W 0 m σ H) ∧ ∀ i m σ H, W i m σ H →
      ((Itt K a).stop i H ∧ D.nx σ H) ∨ ((Itt K a).go i H ∧ ∃ N : St → Hp → Prop, (∀ σ' H', N σ' H' → ∃ m', m' < m ∧ W (i + 1) m' σ' H') ∧ ∀ x H', (Itt K a).yld i H x H' → g x σ H' fun σ2 H2 => tb { D with nx := N, ct := N, bk := D.nx } σ2 H2) := by
  refine ⟨fun i m σ H => m = xs.length - i ∧ i ≤ xs.length ∧ Pv i σ H, ⟨xs.length, by simp, Nat.zero_le _, h0⟩, ?_⟩
  rintro i m σ H ⟨rfl, hi, p⟩
  have q := hl i σ H hi p
  by_cases hlt : i < xs.length
  · refine .inr ⟨⟨xs, xs[i], q, by simp [hlt]⟩, Pv (i + 1), fun σ' H' p' => ⟨xs.length - (i + 1), by omega, rfl, hlt, p'⟩, fun x H' y => ?_⟩
    obtain ⟨e, y⟩ := y
    subst e
    exact hs i x σ _ (y xs q) p
  · have e : i = xs.length := by omega
    subst e
    exact .inl ⟨⟨xs, q, Nat.le_refl _⟩, hd σ H p⟩
theorem for_range {lo : Int} {n : Nat} {g : TG} {tb : TS} {D : Ends} {σ : St} {H : Hp} (Pv : Nat → St → Hp → Prop) (h0 : Pv 0 σ H)
    (hs : ∀ i σ H, i < n → Pv i σ H → g (.int (lo + i)) σ H fun σ2 H2 => tb { D with nx := Pv (i + 1), ct := Pv (i + 1), bk := D.nx } σ2 H2) (hd : ∀ σ H, Pv n σ H → D.nx σ H) :
    ∃ W : Nat → Nat → St → Hp → Prop, (∃ m, W 0 m σ H) ∧ ∀ i m σ H, W i m σ H →
      ((Itr lo n).stop i H ∧ D.nx σ H) ∨ ((Itr lo n).go i H ∧ ∃ N : St → Hp → Prop, (∀ σ' H', N σ' H' → ∃ m', m' < m ∧ W (i + 1) m' σ' H') ∧ ∀ x H', (Itr lo n).yld i H x H' → g x σ H' fun σ2 H2 => tb { D with nx := N, ct := N, bk := D.nx } σ2 H2) := by
  refine ⟨fun i m σ H => m = n - i ∧ i ≤ n ∧ Pv i σ H, ⟨n, by simp, Nat.zero_le _, h0⟩, ?_⟩
  rintro i m σ H ⟨rfl, hi, p⟩
  by_cases hlt : i < n
  · refine .inr ⟨hlt, Pv (i + 1), fun σ' H' p' => ⟨n - (i + 1), by omega, rfl, hlt, p'⟩, fun x H' y => ?_⟩
    obtain ⟨e, y⟩ := y
    subst e y
    exact hs i σ _ hlt p
  · have e : i = n := by omega
    subst e
    exact .inl ⟨Nat.le_refl _, hd σ H p⟩
/-- while, by a word and a measure of the state -/
theorem while_by {c : TT} {tb : TS} {D : Ends} {σ : St} {H : Hp} (Pv : St → Hp → Prop) (μ : St → Hp → Nat) (h0 : Pv σ H)
    (hs : ∀ σ H, Pv σ H → c σ H fun b H1 => if b = true then tb { D with nx := fun σ' H' => Pv σ' H' ∧ μ σ' H' < μ σ H, ct := fun σ' H' => Pv σ' H' ∧ μ σ' H' < μ σ H, bk := D.nx } σ H1 else D.nx σ H1)
    (mono : ∀ σ H Q Q', (∀ b H1, Q b H1 → Q' b H1) → c σ H Q → c σ H Q') : tWhile c tb D σ H := by
  refine ⟨fun m σ H => m = μ σ H ∧ Pv σ H, ⟨_, rfl, h0⟩, ?_⟩
  rintro m σ H ⟨rfl, p⟩
  refine mono σ H _ _ (fun b H1 q => ?_) (hs σ H p)
  cases b with
  | true => exact ⟨_, fun σ' H' ⟨p', l⟩ => ⟨_, l, rfl, p'⟩, q⟩
  | false => exact q
end L2

namespace L2
open PySem PySem.Spec PyProof.Rows

abbrev R2 := V → V → Hp → VK → Prop
/-- a two-place operation on values: f is binaryOp op, inplaceOp op or compareOp op -/
def OpR (X : Cx) (f : Value → Value → Sem Value) (r : R2) : Prop :=
  ∀ (pins : List (Addr × Obj)) (s : Shared) (σ : St) (H : Hp) (x y : V) (v u : Value) (Q : VK), Inv X pins σ H s → RelV x v → RelV y u → r x y H Q →
    wpAny (model X.prog X.w) X.A (f v u) (EP X pins σ Q) X.xe s
/-- a one-place operation -/
def UnR (X : Cx) (f : Value → Sem Value) (r : V → Hp → VK → Prop) : Prop :=
  ∀ (pins : List (Addr × Obj)) (s : Shared) (σ : St) (H : Hp) (x : V) (v : Value) (Q : VK), Inv X pins σ H s → RelV x v → r x H Q →
    wpAny (model X.prog X.w) X.A (f v) (EP X pins σ Q) X.xe s
/-- a call of a value that is known (a builtin, a type) with values -/
def CallR (X : Cx) (f : Value) (r : List V → Hp → VK → Prop) : Prop :=
  ∀ (pins : List (Addr × Obj)) (s : Shared) (σ : St) (H : Hp) (xs : List V) (us : List Value) (Q : VK), Inv X pins σ H s → Vals xs us → r xs H Q →
    wpAny (model X.prog X.w) X.A (call f us) (EP X pins σ Q) X.xe s

def tOp (r : R2) (ta tb : TE) : TE := fun σ H Q => ta σ H fun x H1 => tb σ H1 fun y H2 => r x y H2 Q
def tUn (r : V → Hp → VK → Prop) (ta : TE) : TE := fun σ H Q => ta σ H fun x H1 => r x H1 Q
/-- ints in, under C, and a value out -/
def rI (C : Int → Int → Prop) (g : Int → Int → V) : R2 := fun x y H Q => ∃ i j, x = .int i ∧ y = .int j ∧ C i j ∧ Q (g i j) H
def rI0 (g : Int → Int → V) : R2 := fun x y H Q => ∃ i j, x = .int i ∧ y = .int j ∧ Q (g i j) H
def rU (g : Int → V) : V → Hp → VK → Prop := fun x H Q => ∃ i, x = .int i ∧ Q (g i) H

section
variable {X : Cx} {a b c : Expr} {ta tb tc : TE} {pos : Pos}

theorem binT (ha : PE X a ta) (hb : PE X b tb) {pins : List (Addr × Obj)} {s : Shared} {σ : St} {H : Hp} {R : V → V → Hp → Prop} (I : Inv X pins σ H s)
    (h : ta σ H fun x H1 => tb σ H1 fun y H2 => R x y H2) {Q : Value → Shared → Prop} {f : Value → Value → Sem Value}
    (hf : ∀ v u s2 x y H2, Inv X pins σ H2 s2 → RelV x v → RelV y u → R x y H2 → wpAny (model X.prog X.w) X.A (f v u) Q X.xe s2) :
    wpAny (model X.prog X.w) X.A (eval a X.env) (fun v s₁ => wpAny (model X.prog X.w) X.A (eval b X.env) (fun u s₂ => wpAny (model X.prog X.w) X.A (f v u) Q X.xe s₂) X.xe s₁) X.xe s := by
  refine thn (ha pins s σ H _ I h) fun v s1 ⟨x, H1, I1, r1, q1⟩ => ?_
  refine thn (hb pins s1 σ H1 _ I1 q1) fun u s2 ⟨y, H2, I2, r2, q2⟩ => ?_
  exact hf v u s2 x y H2 I2 r1 r2 q2

theorem pe_op {op : Operator} {r : R2} (ho : OpR X (binaryOp op) r) (ha : PE X a ta) (hb : PE X b tb) : PE X (.BinOp a op b pos) (tOp r ta tb) := by
  intro pins s σ H Q I h
  exact wpAny_BinOp (binT ha hb I h fun v u s2 x y H2 I2 rx ry q => ho pins s2 σ H2 x y v u Q I2 rx ry q)
theorem pe_un {op : UnaryOp} {r : V → Hp → VK → Prop} (ho : UnR X (unaryOp op) r) (ha : PE X a ta) : PE X (.UnaryOp op a pos) (tUn r ta) := by
  intro pins s σ H Q I h
  exact UnaryOp_ (thn (ha pins s σ H _ I h) fun v s1 ⟨x, H1, I1, r1, q1⟩ => ho pins s1 σ H1 x v Q I1 r1 q1)

/-! ### ints -/
theorem opI {f : Value → Value → Sem Value} {C : Int → Int → Prop} {g : Int → Int → Int}
    (rule : ∀ (i j : Int) (t u : Tok) (s : Shared) (Q : Value → Shared → Prop) (E : Value → Shared → Prop), C i j → Q (.int (g i j) s.toks) { s with toks := s.toks + 1 } → wpAny (model X.prog X.w) X.A (f (.int i t) (.int j u)) Q E s) :
    OpR X f (rI C fun i j => .int (g i j)) := by
  intro pins s σ H x y v u Q I rx ry h
  obtain ⟨i, j, rfl, rfl, hc, q⟩ := h
  obtain ⟨t, rfl⟩ := rx
  obtain ⟨t', rfl⟩ := ry
  exact rule i j t t' s _ _ hc ⟨.int (g i j), H, I.tok _, ⟨_, rfl⟩, q⟩
theorem opI0 {f : Value → Value → Sem Value} {g : Int → Int → Int}
    (rule : ∀ (i j : Int) (t u : Tok) (s : Shared) (Q : Value → Shared → Prop) (E : Value → Shared → Prop), Q (.int (g i j) s.toks) { s with toks := s.toks + 1 } → wpAny (model X.prog X.w) X.A (f (.int i t) (.int j u)) Q E s) :
    OpR X f (rI0 fun i j => .int (g i j)) := by
  intro pins s σ H x y v u Q I rx ry h
  obtain ⟨i, j, rfl, rfl, q⟩ := h
  obtain ⟨t, rfl⟩ := rx
  obtain ⟨t', rfl⟩ := ry
  exact rule i j t t' s _ _ ⟨.int (g i j), H, I.tok _, ⟨_, rfl⟩, q⟩
theorem opB0 {f : Value → Value → Sem Value} {g : Int → Int → Bool}
    (rule : ∀ (i j : Int) (t u : Tok) (s : Shared) (Q : Value → Shared → Prop) (E : Value → Shared → Prop), Q (.bool (g i j)) s → wpAny (model X.prog X.w) X.A (f (.int i t) (.int j u)) Q E s) :
    OpR X f (rI0 fun i j => .bl (g i j)) := by
  intro pins s σ H x y v u Q I rx ry h
  obtain ⟨i, j, rfl, rfl, q⟩ := h
  obtain ⟨t, rfl⟩ := rx
  obtain ⟨t', rfl⟩ := ry
  exact rule i j t t' s _ _ ⟨.bl (g i j), H, I, rfl, q⟩

def CPow (i j : Int) : Prop := 0 ≤ j ∧ j ≤ 1000000 ∧ i.natAbs < 2 ^ 64
def CMul (i j : Int) : Prop := (-(2 ^ 64) < i ∧ i < 2 ^ 64) ∨ (-(2 ^ 64) < j ∧ j < 2 ^ 64)
theorem CMul.ok {i j : Int} (h : CMul i j) : IntMulOk i j := by
  rcases h with ⟨h1, h2⟩ | ⟨h1, h2⟩
  · exact .of_left (intBits_le_64 h1 h2)
  · exact .of_right (intBits_le_64 h1 h2)

theorem op_add : OpR X (binaryOp .Add) (rI0 fun i j => .int (i + j)) := opI0 fun _ _ _ _ _ _ _ q => add_int q
theorem op_sub : OpR X (binaryOp .Sub) (rI0 fun i j => .int (i - j)) := opI0 fun _ _ _ _ _ _ _ q => sub_int q
theorem op_mul : OpR X (binaryOp .Mult) (rI CMul fun i j => .int (i * j)) := opI fun _ _ _ _ _ _ _ hc q => mul_int q hc.ok
/-- % by a positive divisor of any size -/
theorem op_mod : OpR X (binaryOp .Mod) (rI (fun _ j => 0 < j) fun i j => .int (i % j)) := opI fun i j _ _ _ _ _ hc q => by
  have h1 : (0 : Int) < j := hc
  exact mod_int' (by omega) (by rw [Int.fmod_eq_emod_of_nonneg i (by omega)]; exact q)
theorem op_pow : OpR X (binaryOp .Pow) (rI CPow fun i j => .int (i ^ j.toNat)) := opI fun _ _ _ _ _ _ _ hc q => pow_int_small hc.1 hc.2.1 hc.2.2 q


theorem unI {f : Value → Sem Value} {g : Int → Int}
    (rule : ∀ (i : Int) (t : Tok) (s : Shared) (Q : Value → Shared → Prop) (E : Value → Shared → Prop), Q (.int (g i) s.toks) { s with toks := s.toks + 1 } → wpAny (model X.prog X.w) X.A (f (.int i t)) Q E s) :
    UnR X f (rU fun i => .int (g i)) := by
  intro pins s σ H x v Q I rx h
  obtain ⟨i, rfl, q⟩ := h
  obtain ⟨t, rfl⟩ := rx
  exact rule i t s _ _ ⟨.int (g i), H, I.tok _, ⟨_, rfl⟩, q⟩
theorem un_neg : UnR X (unaryOp .USub) (rU fun i => .int (-i)) := unI fun _ _ _ _ _ q => neg_int q

/-! ### bools among ints: n += (a < b) -/
end

/-! ### comparisons -/
/-- the scalars that == tells apart as data does -/
def scal : V → V → Bool
  | .non, .non => true | .non, .int _ => true | .int _, .non => true | .non, .bl _ => true | .bl _, .non => true | .non, .str _ => true | .str _, .non => true
  | .int _, .int _ => true | .bl _, .bl _ => true | .str _, .str _ => true | .byt _, .byt _ => true
  | .int _, .str _ => true | .str _, .int _ => true | .bl _, .str _ => true | .str _, .bl _ => true
  | _, _ => false
def rEq : R2 := fun x y H Q => scal x y = true ∧ Q (.bl (decide (x = y))) H
def rNe : R2 := fun x y H Q => scal x y = true ∧ Q (.bl (!decide (x = y))) H

theorem dec_int {i j : Int} : decide (V.int i = V.int j) = (i == j) := by
  rw [Bool.eq_iff_iff]
  simp
theorem dec_bl {i j : Bool} : decide (V.bl i = V.bl j) = (i == j) := by
  rw [Bool.eq_iff_iff]
  simp
theorem dec_str {i j : Str} : decide (V.str i = V.str j) = (i == j) := by
  rw [Bool.eq_iff_iff]
  simp
theorem dec_byt {i j : Array UInt8} : decide (V.byt i = V.byt j) = (i.toList == j.toList) := by
  rw [Bool.eq_iff_iff]
  cases i
  cases j
  simp

section
variable {X : Cx} {a b c : Expr} {ta tb tc : TE} {pos : Pos}
theorem fin_bl {pins : List (Addr × Obj)} {σ : St} {H : Hp} {s : Shared} {Q : VK} {k k' : Bool} (I : Inv X pins σ H s) (q : Q (.bl k) H) (e : k = k') : EP X pins σ Q (.bool k') s := by
  subst e
  exact ⟨.bl k, H, I, rfl, q⟩
theorem op_eq : OpR X (compareOp .Eq) rEq := by
  intro pins s σ H x y v u Q I rx ry h
  obtain ⟨hs, q⟩ := h
  cases x with
  | non =>
    cases rx
    cases y with
    | non => cases ry; exact PySem.EqNone.eq_none_none (fin_bl I q (by simp))
    | bl j => cases ry; exact PySem.EqNone.eq_none_bool (fin_bl I q (by simp))
    | int j => obtain ⟨t', rfl⟩ := ry; exact PySem.EqNone.eq_none_int (fin_bl I q (by simp))
    | str j => obtain ⟨t', rfl⟩ := ry; exact PySem.EqNone.eq_none_str (fin_bl I q (by simp))
    | _ => exact absurd (show false = true from hs) Bool.false_ne_true
  | bl i =>
    cases rx
    cases y with
    | non => cases ry; exact PySem.EqNone.eq_bool_none (fin_bl I q (by simp))
    | bl j => cases ry; exact eq_bool (fin_bl I q dec_bl)
    | str j => obtain ⟨t', rfl⟩ := ry; exact PySem.EqMixed.eq_bool_str (fin_bl I q (by simp))
    | _ => exact absurd (show false = true from hs) Bool.false_ne_true
  | int i =>
    obtain ⟨t, rfl⟩ := rx
    cases y with
    | non => cases ry; exact PySem.EqNone.eq_int_none (fin_bl I q (by simp))
    | int j => obtain ⟨t', rfl⟩ := ry; exact eq_int (fin_bl I q dec_int)
    | str j => obtain ⟨t', rfl⟩ := ry; exact PySem.EqMixed.eq_int_str (fin_bl I q (by simp))
    | _ => exact absurd (show false = true from hs) Bool.false_ne_true
  | str i =>
    obtain ⟨t, rfl⟩ := rx
    cases y with
    | non => cases ry; exact PySem.EqNone.eq_str_none (fin_bl I q (by simp))
    | bl j => cases ry; exact PySem.EqMixed.eq_str_bool (fin_bl I q (by simp))
    | int j => obtain ⟨t', rfl⟩ := ry; exact PySem.EqMixed.eq_str_int (fin_bl I q (by simp))
    | str j => obtain ⟨t', rfl⟩ := ry; exact eq_str (fin_bl I q dec_str)
    | _ => exact absurd (show false = true from hs) Bool.false_ne_true
  | byt i =>
    obtain ⟨t, rfl⟩ := rx
    cases y with
    | byt j => obtain ⟨t', rfl⟩ := ry; exact PySem.W.eq_bytes (fin_bl I q dec_byt)
    | _ => exact absurd (show false = true from hs) Bool.false_ne_true
  | _ => cases y <;> exact absurd (show false = true from hs) Bool.false_ne_true
theorem op_ne : OpR X (compareOp .NotEq) rNe := by
  intro pins s σ H x y v u Q I rx ry h
  obtain ⟨hs, q⟩ := h
  cases x with
  | non =>
    cases rx
    cases y with
    | non => cases ry; exact PySem.EqNone.ne_none_none (fin_bl I q (by simp))
    | bl j => cases ry; exact PySem.EqNone.ne_none_bool (fin_bl I q (by simp))
    | int j => obtain ⟨t', rfl⟩ := ry; exact PySem.EqNone.ne_none_int (fin_bl I q (by simp))
    | str j => obtain ⟨t', rfl⟩ := ry; exact PySem.EqNone.ne_none_str (fin_bl I q (by simp))
    | _ => exact absurd (show false = true from hs) Bool.false_ne_true
  | bl i =>
    cases rx
    cases y with
    | non => cases ry; exact PySem.EqNone.ne_bool_none (fin_bl I q (by simp))
    | bl j => cases ry; exact ne_bool (fin_bl I q (congrArg not dec_bl))
    | str j => obtain ⟨t', rfl⟩ := ry; exact PySem.EqMixed.ne_bool_str (fin_bl I q (by simp))
    | _ => exact absurd (show false = true from hs) Bool.false_ne_true
  | int i =>
    obtain ⟨t, rfl⟩ := rx
    cases y with
    | non => cases ry; exact PySem.EqNone.ne_int_none (fin_bl I q (by simp))
    | int j => obtain ⟨t', rfl⟩ := ry; exact ne_int (fin_bl I q (congrArg not dec_int))
    | str j => obtain ⟨t', rfl⟩ := ry; exact PySem.EqMixed.ne_int_str (fin_bl I q (by simp))
    | _ => exact absurd (show false = true from hs) Bool.false_ne_true
  | str i =>
    obtain ⟨t, rfl⟩ := rx
    cases y with
    | non => cases ry; exact PySem.EqNone.ne_str_none (fin_bl I q (by simp))
    | bl j => cases ry; exact PySem.EqMixed.ne_str_bool (fin_bl I q (by simp))
    | int j => obtain ⟨t', rfl⟩ := ry; exact PySem.EqMixed.ne_str_int (fin_bl I q (by simp))
    | str j => obtain ⟨t', rfl⟩ := ry; exact ne_str (fin_bl I q (congrArg not dec_str))
    | _ => exact absurd (show false = true from hs) Bool.false_ne_true
  | byt i =>
    obtain ⟨t, rfl⟩ := rx
    cases y with
    | byt j => obtain ⟨t', rfl⟩ := ry; exact PySem.W.ne_bytes (fin_bl I q (congrArg not dec_byt))
    | _ => exact absurd (show false = true from hs) Bool.false_ne_true
  | _ => cases y <;> exact absurd (show false = true from hs) Bool.false_ne_true

theorem op_lt : OpR X (compareOp .Lt) (rI0 fun i j => .bl (decide (i < j))) := opB0 fun _ _ _ _ _ _ _ q => lt_int q
theorem op_le : OpR X (compareOp .LtE) (rI0 fun i j => .bl (decide (i ≤ j))) := opB0 fun _ _ _ _ _ _ _ q => le_int q
theorem op_gt : OpR X (compareOp .Gt) (rI0 fun i j => .bl (decide (j < i))) := opB0 fun _ _ _ _ _ _ _ q => gt_int q
theorem op_ge : OpR X (compareOp .GtE) (rI0 fun i j => .bl (decide (j ≤ i))) := opB0 fun _ _ _ _ _ _ _ q => ge_int q



/-- two rules for one operation: by cases -/
theorem OpR.or {f : Value → Value → Sem Value} {r r' : R2} (h : OpR X f r) (h' : OpR X f r') : OpR X f (fun x y H Q => r x y H Q ∨ r' x y H Q) := by
  intro pins s σ H x y v u Q I rx ry q
  rcases q with q | q
  · exact h pins s σ H x y v u Q I rx ry q
  · exact h' pins s σ H x y v u Q I rx ry q

theorem nomark (b : Expr) {op : CmpOp} (h : op ≠ .In := by decide) (h2 : op ≠ .NotIn := by decide) : behindInMarks op b = false := by
  have e1 : (op == CmpOp.In) = false := by cases op <;> first | rfl | exact absurd rfl h
  have e2 : (op == CmpOp.NotIn) = false := by cases op <;> first | rfl | exact absurd rfl h2
  cases b <;> simp [behindInMarks, e1, e2]
/-- a comparison as a value; hm: nomark b, or (for in, not in) by with_unfolding_all rfl -/
theorem pe_cmpR {op : CmpOp} {r : R2} (ho : OpR X (compareOp op) r) (ha : PE X a ta) (hb : PE X b tb) (hm : behindInMarks op b = false) : PE X (.Compare a [op] [b] pos) (tOp r ta tb) := by
  intro pins s σ H Q I h
  exact wpAny_Compare1 (binT ha hb I h fun v u s2 x y H2 I2 rx ry q => ho pins s2 σ H2 x y v u Q I2 rx ry q) hm
/-- a reading of a value as a test -/
def tTest (t : TE) : TT := fun σ H Q => t σ H fun x H' => ∃ k, x = .bl k ∧ Q k H'
theorem pt_cmpR {op : CmpOp} {r : R2} (ho : OpR X (compareOp op) r) (ha : PE X a ta) (hb : PE X b tb) (hm : behindInMarks op b = false) : PT X (.Compare a [op] [b] pos) (tTest (tOp r ta tb)) := by
  intro pins s σ H Q I h
  refine wpAny_isTrue_Compare1 (thn (ha pins s σ H _ I h) fun v s1 ⟨x, H1, I1, r1, q1⟩ => thn (hb pins s1 σ H1 _ I1 q1) fun u s2 ⟨y, H2, I2, r2, q2⟩ =>
    thn (ho pins s2 σ H2 x y v u _ I2 r1 r2 q2) fun c s3 ⟨z, H3, I3, r3, k, e, q3⟩ => ?_) hm
  subst e
  cases r3
  exact wpAny_truthy_bool ⟨H3, I3, q3⟩
/-- a op1 b op2 c -/
def tChain (r r' : R2) (ta tb tc : TE) : TE := fun σ H Q => ta σ H fun x H1 => tb σ H1 fun y H2 => r x y H2 fun z H3 => ∃ k, z = .bl k ∧
  (if k = true then tc σ H3 fun w' H4 => r' y w' H4 Q else Q (.bl false) H3)
theorem pe_chain {op op' : CmpOp} {r r' : R2} (ho : OpR X (compareOp op) r) (ho' : OpR X (compareOp op') r') (ha : PE X a ta) (hb : PE X b tb) (hc : PE X c tc)
    (hm : lastMarks [op, op'] [b, c] = false := by with_unfolding_all rfl) : PE X (.Compare a [op, op'] [b, c] pos) (tChain r r' ta tb tc) := by
  intro pins s σ H Q I h
  refine Compare_chain (thn (ha pins s σ H _ I h) fun v s1 ⟨x, H1, I1, r1, q1⟩ => chain_link (thn (hb pins s1 σ H1 _ I1 q1) fun u s2 ⟨y, H2, I2, r2, q2⟩ =>
    thn (ho pins s2 σ H2 x y v u _ I2 r1 r2 q2) fun d s3 ⟨z, H3, I3, r3, k, e, q3⟩ => ?_)) hm
  subst e
  cases r3
  refine wpAny_truthy_bool ?_
  cases k with
  | false => exact ite_ff ⟨.bl false, H3, I3, rfl, q3⟩
  | true => exact ite_tt (chain_last (thn (hc pins s3 σ H3 _ I3 q3) fun w' s4 ⟨z', H4, I4, r4, q4⟩ => ho' pins s4 σ H4 y z' u w' Q I4 r2 r4 q4))
theorem pt_chain {op op' : CmpOp} {r r' : R2} (ho : OpR X (compareOp op) r) (ho' : OpR X (compareOp op') r') (ha : PE X a ta) (hb : PE X b tb) (hc : PE X c tc)
    (hm : lastMarks [op, op'] [b, c] = false := by with_unfolding_all rfl) : PT X (.Compare a [op, op'] [b, c] pos) (tTest (tChain r r' ta tb tc)) := by
  intro pins s σ H Q I h
  refine isTrue_chain (thn (ha pins s σ H _ I h) fun v s1 ⟨x, H1, I1, r1, q1⟩ => test_link (thn (hb pins s1 σ H1 _ I1 q1) fun u s2 ⟨y, H2, I2, r2, q2⟩ =>
    thn (ho pins s2 σ H2 x y v u _ I2 r1 r2 q2) fun d s3 ⟨z, H3, I3, r3, k, e, q3⟩ => ?_)) hm
  subst e
  cases r3
  refine wpAny_truthy_bool ?_
  cases k with
  | false =>
    obtain ⟨k', e', q'⟩ := q3
    cases e'
    exact ite_ff ⟨H3, I3, q'⟩
  | true =>
    refine ite_tt (test_last (thn (hc pins s3 σ H3 _ I3 q3) fun w' s4 ⟨z', H4, I4, r4, q4⟩ => thn (ho' pins s4 σ H4 y z' u w' _ I4 r2 r4 q4) fun d' s5 ⟨z2, H5, I5, r5, k2, e2, q5⟩ => ?_))
    subst e2
    cases r5
    exact wpAny_truthy_bool ⟨H5, I5, q5⟩

/-! ### truth -/
theorem line63 : (sizeLine : Nat) < 2 ^ 63 := by rw [sizeLine_eq]; decide

/-! ### strs and bytes -/


/-! ### scalar builtins, by CallR -/
theorem vals1 {x : V} {us : List Value} (r : Vals [x] us) : ∃ u, us = [u] ∧ RelV x u := by
  cases r with
  | cons r1 r2 => cases r2; exact ⟨_, rfl, r1⟩
theorem vals2 {x y : V} {us : List Value} (r : Vals [x, y] us) : ∃ u w', us = [u, w'] ∧ RelV x u ∧ RelV y w' := by
  cases r with
  | cons r1 r2 =>
    cases r2 with
    | cons r3 r4 => cases r4; exact ⟨_, _, rfl, r1, r3⟩
theorem call_max2 (hc : X.calm = true) : CallR X (.builtin "max") (fun xs H Q => ∃ i j, xs = [.int i, .int j] ∧ Q (.int (if j > i then j else i)) H) := by
  intro pins s σ H xs us Q I r h
  obtain ⟨i, j, rfl, q⟩ := h
  obtain ⟨u, w', rfl, ⟨t, rfl⟩, ⟨t', rfl⟩⟩ := vals2 r
  refine max_two_ints (I.ok.hd hc) fun h' tk k => ⟨_, H, I.kept k, ?_, q⟩
  by_cases hj : j > i
  · rw [if_pos hj, if_pos hj]; exact ⟨_, rfl⟩
  · rw [if_neg hj, if_neg hj]; exact ⟨_, rfl⟩
theorem call_min2 (hc : X.calm = true) : CallR X (.builtin "min") (fun xs H Q => ∃ i j, xs = [.int i, .int j] ∧ Q (.int (if j < i then j else i)) H) := by
  intro pins s σ H xs us Q I r h
  obtain ⟨i, j, rfl, q⟩ := h
  obtain ⟨u, w', rfl, ⟨t, rfl⟩, ⟨t', rfl⟩⟩ := vals2 r
  refine min_two_ints (I.ok.hd hc) fun h' tk k => ⟨_, H, I.kept k, ?_, q⟩
  by_cases hj : j < i
  · rw [if_pos hj, if_pos hj]; exact ⟨_, rfl⟩
  · rw [if_neg hj, if_neg hj]; exact ⟨_, rfl⟩
end
end L2

namespace L2
open PySem PySem.Spec PyProof.Rows

/-! ### an instance, its attributes a map -/
structure ObjM (h : Heap) (x dx C : Addr) (mA : Str → Option Value) : Prop where
  obj : h.get? x = some (PySem.W.instObj C dx)
  ns : h.Ns1 dx mA
  ne : dx ≠ x

theorem lookIn_ns {h : Heap} {dx : Addr} {mA : Str → Option Value} (n : h.Ns1 dx mA) : ∃ od, h.get? dx = some od ∧ ∀ name, PySem.W.lookIn name od = some (mA name) := by
  obtain ⟨o, es, ep, ho, hd, hk, _, hm⟩ := n
  refine ⟨o, ho, fun name => ?_⟩
  have e := hm name
  unfold nsFind findBy at e
  rw [← Array.find?_toList] at e
  unfold PySem.W.lookIn
  rw [hd]
  dsimp only
  split
  · rename_i y q
    rw [q] at e
    exact congrArg some e
  · rename_i q
    rw [q] at e
    have a : es.toList.any (·.refKey) = false := by
      rw [List.any_eq_false]
      intro y hy
      obtain ⟨z, t, hkey⟩ := hk y (Array.mem_toList_iff.mp hy)
      simp [DictEntry.refKey, hkey]
    have a' : ¬ es.toList.any (·.refKey) = true := by rw [a]; exact Bool.false_ne_true
    rw [if_neg a']
    exact congrArg some e

theorem ObjM.look {h : Heap} {x dx C : Addr} {mA : Str → Option Value} (I : ObjM h x dx C mA) : ∃ od, PySem.W.InstAt h x (PySem.W.instObj C dx) C (some od) ∧ ∀ name, PySem.W.lookIn name od = some (mA name) :=
  let ⟨od, ho, hl⟩ := lookIn_ns I.ns
  ⟨od, ⟨I.obj, rfl, rfl, ho⟩, hl⟩

section
variable {prog : Program} {w : World} {A : Around} {E : Value → Shared → Prop} {s : Shared} {K : PySem.W.Frag} {x dx C f : Addr} {mA : Str → Option Value} {name : Str} {v : Value}





end

/-! ### the attributes as a list of pairs -/


section
variable {P : Program} {w : World} {H H' : Hp} {h h' : Heap} {a C dx : Addr} {fs fs' : List (Str × V)}
theorem ins_get (hok : HOk P w H h) (e : H a = some (.ins C dx fs)) : ∃ mA, ObjM h a dx C mA ∧ (∀ f, RelO (fs.lookup f) (mA f)) ∧ PySem.Within mA (fs.map (·.1)) ∧ fs.length ≤ 1000 ∧ H dx = some (.own a) := by
  obtain ⟨d, z, ne, ob, mA, n, r, q⟩ := (show ObjOk P w H h a (.ins C dx fs) from hok a _ e)
  exact ⟨mA, ⟨ob, n, ne⟩, r, q, z, d⟩
end

/-! ### what of the text a class must have -/
structure Cls (K : PySem.W.Frag) (C : Addr) : Prop where
  pg : PySem.W.plainGet K C Str.empty = true
  hd : PySem.W.hasDictIn K C = true
  po : PySem.W.plainOver K C = true
  sa : PySem.W.findIn K (.ref C) "__setattr__" = some (some (.builtin "object.__setattr__"))
theorem Cls.get {K : PySem.W.Frag} {C : Addr} (c : Cls K C) (f : Str) : PySem.W.plainGet K C f = true := c.pg
/-- a constant of the class -/
structure Con (K : PySem.W.Frag) (C : Addr) (f : Str) (v : V) (u : Value) : Prop where
  at_ : PySem.W.findIn K (.ref C) f = some (some u)
  rel : RelV v u
  get : PySem.W.specialIn K u "__get__" = some none
  cp : PySem.W.copiedNames.contains f = false
/-- a method: a plain def of the class or of one above it -/
structure Meth (K : PySem.W.Frag) (C : Addr) (m : Str) (f : Addr) : Prop where
  at_ : PySem.W.findIn K (.ref C) m = some (some (.ref f))
  fn : PySem.W.isFn K (.ref f) = true
  kp : PySem.W.keepIn K (.ref f) = true

section
variable {X : Cx} {pins : List (Addr × Obj)} {σ : St} {H : Hp} {s : Shared} {a C dx : Addr} {fs : List (Str × V)} {f : Str} {v : V} {A : Around} {E : Value → Shared → Prop}





/-- a new instance, tracked, without attributes -/
theorem Inv.made (I : Inv X pins σ H s) : Inv X pins σ (upd (upd H s.heap.objs.size (.own (s.heap.objs.size + 1))) (s.heap.objs.size + 1) (.ins C s.heap.objs.size []))
    { s with heap := (s.heap.push PySem.W.emptyDict).push (PySem.W.instObj C s.heap.objs.size) } := by
  have e1 : (s.heap.push PySem.W.emptyDict).get? s.heap.objs.size = some PySem.W.emptyDict := Heap.get?_push_size s.heap rfl
  have e2 : ((s.heap.push PySem.W.emptyDict).push (PySem.W.instObj C s.heap.objs.size)).get? (s.heap.objs.size + 1) = some (PySem.W.instObj C s.heap.objs.size) := by
    have := Heap.get?_push_size (s.heap.push PySem.W.emptyDict) (o := PySem.W.instObj C s.heap.objs.size) rfl
    rwa [Heap.size_push] at this
  have e3 : (s.heap.push PySem.W.emptyDict).Ns s.heap.objs.size (fun _ => none) := ⟨PySem.W.emptyDict, #[], _, e1, rfl, (fun e he => absurd he (by simp)), fun _ => rfl⟩
  have I1 := I.laid (a := s.heap.objs.size) (o := .own (s.heap.objs.size + 1)) (h' := s.heap.push PySem.W.emptyDict) (t' := s.toks) (fun b u q => Heap.get?_push_of_some _ q) (Nat.le_refl _) ⟨_, e1⟩
  refine I1.laid (a := s.heap.objs.size + 1) (o := .ins C s.heap.objs.size []) (t' := s.toks) (fun b u q => Heap.get?_push_of_some _ q) (Nat.le_of_eq (Heap.size_push _ _)) ?_
  have ne : s.heap.objs.size ≠ s.heap.objs.size + 1 := Nat.ne_of_lt (Nat.lt_succ_self _)
  refine ⟨by rw [upd_ne ne, upd_same], Nat.zero_le _, ne, e2, fun _ => none, (Heap.Ns1.of_empty e3).at fun o q => Heap.get?_push_of_some _ q, fun _ => True.intro, fun y hy => absurd rfl hy⟩

end

/-! ### readings and rules -/

section
variable {X : Cx} {o e value : Expr} {f : Str} {pos pos' tpos : Pos} {ta tv : TE}

end

/-! ### isinstance -/
section
variable {X : Cx} {pins : List (Addr × Obj)} {σ : St} {H : Hp} {s : Shared} {A : Around} {E : Value → Shared → Prop} {Q : Value → Shared → Prop} {c : Value} {b : Bool}
/-- the type of a value, as the fragment's deciders take it; for an instance its class -/
inductive TyOf (K : PySem.W.Frag) (H : Hp) : V → Value → Prop where
  | non : TyOf K H .non (.type "NoneType")
  | bl (x : Bool) : TyOf K H (.bl x) (.type "bool")
  | int (i : Int) : TyOf K H (.int i) (.type "int")
  | str (x : Str) : TyOf K H (.str x) (.type "str")
  | flt (x : UInt64) : TyOf K H (.flt x) (.type "float")
  | lst {a : Addr} {xs : List V} (e : H a = some (.lst xs)) : TyOf K H (.ref a) (.type "list")
  | frz {a : Addr} {o : Obj} {xs : List V} (e : H a = some (.frz o (.lst xs))) : TyOf K H (.ref a) (.type "list")
  | tup {a : Addr} {xs : List V} (e : H a = some (.tup xs)) : TyOf K H (.ref a) (.type "tuple")
  | dK {a : Addr} {kvs : List (Key × V)} (e : H a = some (.dK kvs)) : TyOf K H (.ref a) (.type "dict")
  | dT {a : Addr} {kvs : List (List Key × V)} (e : H a = some (.dT kvs)) : TyOf K H (.ref a) (.type "dict")
  | ins {a C dx : Addr} {fs : List (Str × V)} (e : H a = some (.ins C dx fs)) (cl : Cls K C) (ha : PySem.W.findIn K (.ref C) "__class__" = some (some (.builtin "object.__class__")))
      (hn : PySem.W.specialIn K (.builtin "object.__class__") "__get__" = some (some (.builtin "getset_descriptor.__get__"))) (htk : PySem.W.takesIn K (.builtin "object.__class__") = some true)
      (hm : PySem.W.mroIn K C (.type "object") = some true) : TyOf K H (.ref a) (.ref C)
/-- isinstance(x, c) for one class c, a built-in or an own one: kitOne's answer -/
theorem isinst_ok {x : V} {u t : Value} (I : Inv X pins σ H s) (rx : RelV x u) (ty : TyOf X.K H x t) (e : PySem.W.kitOne X.K t c = some b) (h : ∀ tk, Q (.bool b) { s with toks := tk }) :
    wpAny (model X.prog X.w) A (call (.builtin "isinstance") [u, c]) Q E s := by
  cases ty with
  | non => cases (show u = Value.none from rx); exact PySem.W.kia_one PySem.W.kitx_none I.kIn True.intro e (fun z => nomatch z) h
  | bl y => cases (show u = Value.bool y from rx); exact PySem.W.kia_one PySem.W.kitx_bool I.kIn True.intro e (fun z => nomatch z) h
  | int i => obtain ⟨t, q⟩ := (show ∃ t, u = Value.int i t from rx); cases q; exact PySem.W.kia_one PySem.W.kitx_int I.kIn True.intro e (fun z => nomatch z) h
  | str y => obtain ⟨t, q⟩ := (show ∃ t, u = Value.str y t from rx); cases q; exact PySem.W.kia_one PySem.W.kitx_str I.kIn True.intro e (fun z => nomatch z) h
  | flt y => obtain ⟨t, q⟩ := (show ∃ t, u = Value.float y t from rx); cases q; exact PySem.W.kia_one PySem.W.kitx_float I.kIn True.intro e (fun z => nomatch z) h
  | @lst a xs ea =>
    cases (show u = Value.ref a from rx)
    obtain ⟨_, _, n, _, h1⟩ := (show ObjOk X.prog X.w H s.heap a (.lst xs) from I.hok a _ ea)
    exact PySem.W.kia_one PySem.W.kitx_list I.kIn ⟨_, h1, rfl⟩ e (fun z => nomatch z) h
  | @frz a ob xs ea =>
    cases (show u = Value.ref a from rx)
    obtain ⟨_, _, _, n, _, h1⟩ := (show ObjOk X.prog X.w H s.heap a (.frz ob (.lst xs)) from I.hok a _ ea)
    exact PySem.W.kia_one PySem.W.kitx_list I.kIn ⟨_, h1, rfl⟩ e (fun z => nomatch z) h
  | @tup a xs ea =>
    cases (show u = Value.ref a from rx)
    obtain ⟨_, _, _, p⟩ := (show ObjOk X.prog X.w H s.heap a (.tup xs) from I.hok a _ ea)
    obtain ⟨o, h1, h2, _⟩ := p
    exact PySem.W.kia_one PySem.W.kitx_tuple I.kIn ⟨o, h1, h2⟩ e (fun z => nomatch z) h
  | @dK a kvs ea =>
    cases (show u = Value.ref a from rx)
    obtain ⟨_, _, vs, _, p⟩ := (show ObjOk X.prog X.w H s.heap a (.dK kvs) from I.hok a _ ea)
    obtain ⟨o, es, ep, h1, h2, _⟩ := p
    exact PySem.W.kia_one PySem.W.kitx_dict I.kIn ⟨o, h1, h2.1⟩ e (fun z => nomatch z) h
  | @dT a kvs ea =>
    cases (show u = Value.ref a from rx)
    obtain ⟨_, _, xs, _, o, es, ep, h1, h2, _⟩ := (show ObjOk X.prog X.w H s.heap a (.dT kvs) from I.hok a _ ea)
    exact PySem.W.kia_one PySem.W.kitx_dict I.kIn ⟨o, h1, h2.1⟩ e (fun z => nomatch z) h
  | @ins a C dx fs ea cl ha hn htk hm =>
    cases (show u = Value.ref a from rx)
    obtain ⟨mA, O, _⟩ := ins_get I.hok ea
    obtain ⟨od, J, _⟩ := O.look
    exact PySem.W.kia_one (PySem.W.kitx_own (cl.get _) cl.hd ha hn htk hm) I.kIn J e (fun z => nomatch z) h
end
end L2

namespace L2
open PySem PySem.Spec PyProof.Rows

/-! ### room -/
structure Room (k : Nat) (A : Around) : Prop where
  gd : A.guards = some []
  hd : 1 < k → A.handled = none
  dp : A.depth + 3 * k + 5 < recursionLimit
  un : A.units + 16 * k + 200 < cLine
theorem Room.mono {j k : Nat} {A : Around} (r : Room k A) (h : j ≤ k) : Room j A := ⟨r.gd, fun hk => r.hd (by omega), by have := r.dp; omega, by have := r.un; omega⟩
theorem Room.deeper {k : Nat} {A : Around} (r : Room (k + 1) A) (env : Env) : Room k (A.deeper env) :=
  ⟨r.gd, fun hk => r.hd (by omega), by have := r.dp; show A.depth + 1 + 3 * k + 5 < _; omega, by have := r.un; show A.units + 3 + 16 * k + 200 < _; omega⟩
theorem Room.in1 {k : Nat} {A : Around} (r : Room (k + 1) A) : Room k A.in1 :=
  ⟨r.gd, fun hk => r.hd (by omega), by have := r.dp; show A.depth + 3 * k + 5 < _; omega, by have := r.un; show A.units + 1 + 16 * k + 200 < _; omega⟩
theorem Room.depth {k : Nat} {A : Around} (r : Room k A) : A.depth < recursionLimit := by have := r.dp; omega
theorem Room.units {k : Nat} {A : Around} (r : Room k A) : A.units + 64 < cLine := by have := r.un; omega

/-! ### argument lists and displays -/
def tNil : TA := fun _ H Q => Q [] H
def tCons (ta : TE) (tr : TA) : TA := fun σ H Q => ta σ H fun x H1 => tr σ H1 fun xs H2 => Q (x :: xs) H2
section
variable {X : Cx} {e : Expr} {es : List Expr} {te : TE} {t : TA} {pos : Pos}
theorem pa_nil : PA X [] tNil := fun _ _ _ _ H Q I h => Calls.spliced_nil ⟨[], H, I, .nil, h⟩
theorem pa_cons (ha : PE X e te) (hr : PA X es t) (hs : starEach (e :: es) X.env = (false, eval e X.env) :: starEach es X.env := by rfl) : PA X (e :: es) (tCons te t) := by
  intro pos pins s σ H Q I h
  rw [hs]
  show wpAny _ _ (spliced ((false, eval e X.env) :: backTo pos (starEach es X.env))) _ _ s
  refine Calls.spliced_cons (thn (ha pins s σ H _ I h) fun u s1 ⟨x, H1, I1, r1, q1⟩ => ?_)
  exact thn (hr pos pins s1 σ H1 _ I1 q1) fun us s2 ⟨xs, H2, I2, r2, q2⟩ => ⟨x :: xs, H2, I2, .cons r1 r2, q2⟩

/-- a tuple, a list of written items -/
def tTup (t : TA) : TE := fun σ H Q => t σ H fun xs H1 => xs.length ≤ sizeLine ∧ ∀ p, H1 p = none → Q (.ref p) (upd H1 p (.tup xs))
def tLst (t : TA) : TE := fun σ H Q => t σ H fun xs H1 => xs.length ≤ sizeLine ∧ ∀ p, H1 p = none → Q (.ref p) (upd H1 p (.lst xs))
theorem pe_tup {x1} (h : PA X es t) : PE X (.Tuple es x1 pos) (tTup t) := by
  intro pins s σ H Q I hq
  refine wpAny_Tuple_spliced (thn (h pos pins s σ H _ I hq) fun us s1 ⟨xs, H1, I1, r, z, q⟩ => ⟨by rw [← r.length]; exact z, ?_⟩)
  have hf : H1 s1.heap.objs.size = none := I1.hok.fresh (Nat.le_refl _)
  refine ⟨.ref s1.heap.objs.size, upd H1 s1.heap.objs.size (.tup xs), I1.laid (t' := s1.toks) (fun b u e => Heap.get?_push_of_some _ e) (Nat.le_refl _) ?_, rfl, q _ hf⟩
  exact ⟨z, us, r, ⟨_, Heap.get?_push_size _ rfl, rfl, _, rfl⟩⟩
theorem pe_lst (h : PA X es t) : PE X (.List es pos) (tLst t) := by
  intro pins s σ H Q I hq
  refine wpAny_List_spliced (thn (h pos pins s σ H _ I hq) fun us s1 ⟨xs, H1, I1, r, z, q⟩ => ⟨by rw [← r.length]; exact z, ?_⟩)
  have hf : H1 s1.heap.objs.size = none := I1.hok.fresh (Nat.le_refl _)
  refine ⟨.ref s1.heap.objs.size, upd H1 s1.heap.objs.size (.lst xs), I1.laid (t' := s1.toks) (fun b u e => Heap.get?_push_of_some _ e) (Nat.le_refl _) ?_, rfl, q _ hf⟩
  exact ⟨z, us, 0, r, Heap.get?_push_size _ rfl⟩
end

/-! ### what a def promises -/
/-- a def's promise: the bound arguments in the parameters' order, the heap, the wanted end, the wanted exception -/
abbrev Sp := List V → Hp → VK → XK → Prop
/-- how an exception lies behind a call (file 08 gives it): the callers' frames, abstract heap and state ahead of the call, the wish, the exception, the state -/
abbrev CXT := List Env → Hp → Shared → XK → Value → Shared → Prop

/-- the state at a call -/
structure Env0 (P : Program) (w : World) (K : PySem.W.Frag) (mg : Str → Option Value) (base : Heap) (A : Around) (outer : List Env) (s : Shared) (H : Hp) : Prop where
  frames : A.frames = some outer
  mod : Mod K mg base
  bs : ∀ b o, base.get? b = some o → s.heap.get? b = some o ∧ H b = none
  bsz : base.objs.size ≤ s.heap.objs.size
  funs : s.heap.FunFrames base outer
  frf : ∀ b ∈ frs outer, H b = none
  hok : HOk P w H s.heap
  bare : AllBare s.gens
/-- a call's end -/
def CE (outer : List Env) (P : Program) (w : World) (H : Hp) (s : Shared) (Q : VK) (u : Value) (s' : Shared) : Prop :=
  ∃ v H', s'.os = s.os ∧ AllBare s'.gens ∧ Un (frs outer) [] H H' s.heap s'.heap ∧ HOk P w H' s'.heap ∧ RelV v u ∧ Q v H'
def CR (CX : CXT) (outer : List Env) (P : Program) (w : World) (H : Hp) (s : Shared) (Q : VK) (E : XK) (r : Result) (s' : Shared) : Prop :=
  match r with
  | .ok (.ret u) => CE outer P w H s Q u s'
  | .ok _ => False
  | .error e => CX outer H s E e s'
structure FnOk (P : Program) (w : World) (K : PySem.W.Frag) (mg : Str → Option Value) (base : Heap) (CX : CXT) (k : Nat) (f : Addr) (fd : FuncData) (ps : List Str) (sp : Sp) : Prop where
  len : ∀ vs H Q E, sp vs H Q E → vs.length = ps.length
  run : ∀ (A : Around) (outer : List Env) (s : Shared) (H : Hp) (args : Args) (us : List Value) (vs : List V) (Q : VK) (E : XK), Room k A → Env0 P w K mg base A outer s H → BindsTo s fd args (ps.zip us) → Vals vs us → sp vs H Q E →
    codeAny (model P w) A (.call (.ref f) args) (CR CX outer P w H s Q E) s
theorem FnOk.mono {P : Program} {w : World} {K : PySem.W.Frag} {mg : Str → Option Value} {base : Heap} {CX : CXT} {j k : Nat} {f : Addr} {fd : FuncData} {ps : List Str} {sp : Sp} (F : FnOk P w K mg base CX j f fd ps sp) (h : j ≤ k) :
    FnOk P w K mg base CX k f fd ps sp := ⟨F.len, fun A outer s H args us vs Q E hr => F.run A outer s H args us vs Q E (hr.mono h)⟩
/-- a weaker promise -/
theorem FnOk.imp {P : Program} {w : World} {K : PySem.W.Frag} {mg : Str → Option Value} {base : Heap} {CX : CXT} {k : Nat} {f : Addr} {fd : FuncData} {ps : List Str} {sp sp' : Sp} (F : FnOk P w K mg base CX k f fd ps sp)
    (h : ∀ vs H Q E, sp' vs H Q E → sp vs H Q E) : FnOk P w K mg base CX k f fd ps sp' :=
  ⟨fun vs H Q E q => F.len vs H Q E (h _ _ _ _ q), fun A outer s H args us vs Q E hr he hb hv hs => F.run A outer s H args us vs Q E hr he hb hv (h _ _ _ _ hs)⟩

theorem Env0.in1 {P : Program} {w : World} {K : PySem.W.Frag} {mg : Str → Option Value} {base : Heap} {A : Around} {outer : List Env} {s : Shared} {H : Hp} (e : Env0 P w K mg base A outer s H) :
    Env0 P w K mg base A.in1 outer s H := ⟨e.frames, e.mod, e.bs, e.bsz, e.funs, e.frf, e.hok, e.bare⟩

section
variable {X : Cx} {pins : List (Addr × Obj)} {σ : St} {H : Hp} {s s' : Shared}
/-- from a body: what a callee wants -/
theorem Inv.env0 (I : Inv X pins σ H s) : Env0 X.prog X.w X.K X.mg X.base X.A X.stack s H :=
  ⟨I.ok.frames, I.ok.mod, I.bs, Nat.le_trans I.ok.bsz I.sz, I.stack, I.stkFree, I.hok, I.bare⟩
/-- behind a call -/
theorem Inv.after {Q : VK} {u : Value} (I : Inv X pins σ H s) (h : CE X.stack X.prog X.w H s Q u s') : EP X pins σ Q u s' := by
  obtain ⟨v, H', os, bare, un, hok, r, q⟩ := h
  obtain ⟨hh, g, d, t, os'⟩ := s'
  obtain rfl : os' = s.os := os
  exact ⟨v, H', I.call (h' := hh) (g' := g) (d' := d) (t' := t) (ch := []) un hok bare (fun b z => absurd z (by simp)), r, q⟩
end

/-! ### calls -/
/-- f(..): the written arguments, then the defaults dvs; E: what is wanted of an exception -/
def tCall (sp : Sp) (dvs : List V) (E : XK) (t : TA) : TE := fun σ H Q => t σ H fun vs H1 => sp (vs ++ dvs) H1 Q E

/-- how the parameters are bound: us the positional arguments, kw the keywords' values by name, ds the defaults that fill up -/
def Binds (K : PySem.W.Frag) (fd : FuncData) (ps : List Str) (ds : List Value) : Prop :=
  ∀ (s : Shared) (us : List Value), K.In s.heap → (us ++ ds).length = ps.length → BindsTo s fd ⟨us, []⟩ (ps.zip (us ++ ds))
/-- every parameter is given -/
theorem Binds.all {K : PySem.W.Frag} {fd : FuncData} {ps : List Str} (h : ∀ us : List Value, us.length = ps.length → bindArgs fd ⟨us, []⟩ = pure (ps.zip us)) : Binds K fd ps [] := fun s us _ hl => by
  rw [List.append_nil] at hl ⊢
  exact .of_eq (h us hl)

/-- an exception of a callee reaches what this body wants of exceptions -/
def Passes (CX : CXT) (X : Cx) (E : XK) : Prop := ∀ (pins : List (Addr × Obj)) (σ : St) (H : Hp) (s : Shared) (e : Value) (s' : Shared), Inv X pins σ H s → CX X.stack H s E e s' → X.xe e s'

section
variable {X : Cx} {CX : CXT} {k : Nat} {f C : Addr} {fd : FuncData} {ps : List Str} {sp : Sp} {dvs : List V} {ds : List Value} {E : XK} {x m : Str} {p pos apos : Pos} {e o : Expr} {es : List Expr} {ta : TE} {t : TA}

/-- the callee runs -/
theorem run_fn {pins : List (Addr × Obj)} {σ : St} {H : Hp} {s : Shared} {Q : VK} {us : List Value} {vs : List V} (F : FnOk X.prog X.w X.K X.mg X.base CX k f fd ps sp) (hr : Room k X.A) (hb : Binds X.K fd ps ds) (hd : Vals dvs ds) (hx : Passes CX X E)
    (I : Inv X pins σ H s) (r : Vals vs us) (h : sp (vs ++ dvs) H Q E) : wpAny (model X.prog X.w) X.A (call (.ref f) us) (EP X pins σ Q) X.xe s := by
  have r2 : Vals (vs ++ dvs) (us ++ ds) := r.append hd
  have hl : (us ++ ds).length = ps.length := by rw [← r2.length]; exact F.len _ _ _ _ h
  refine wpAny_call (codeAny_mono (F.run X.A X.stack s H ⟨us, []⟩ (us ++ ds) (vs ++ dvs) Q E hr I.env0 (hb s us I.kIn hl) r2 h) fun r s' hq => ?_)
  cases r with
  | error e => exact hx pins σ H s e s' I hq
  | ok fl =>
    cases fl with
    | ret u => exact I.after hq
    | next => exact False.elim hq
    | brk => exact False.elim hq
    | cont => exact False.elim hq

theorem pe_call (F : FnOk X.prog X.w X.K X.mg X.base CX k f fd ps sp) (hr : Room k X.A) (hg : Gl X x) (hm : X.mg x = some (.ref f)) (hk : PySem.W.keepIn X.K (.ref f) = true) (hb : Binds X.K fd ps ds) (hd : Vals dvs ds) (hx : Passes CX X E)
    (ha : PA X (e :: es) t) (hdb : (x == ("__debug__" : Str)) = false := by decide) (he : starEach (e :: es) X.env = (false, eval e X.env) :: starEach es X.env := by rfl) (hpl : (backTo pos (starEach es X.env)).any (·.1) = false := by rfl) :
    PE X (.Call (.Name x p) (e :: es) [] pos) (tCall sp dvs E t) := by
  intro pins s σ H Q I h
  refine wpAny_Call_Name_kw (ld_glob I hg hm ?_ hdb)
  refine PySem.W.callWith_K (h₀ := X.base) I.ok.mod.kin hk (thn (ha pos pins s σ H _ I h) fun us s1 ⟨vs, H1, I1, r, q⟩ => ⟨I1.kIn, ?_⟩) he hpl
  exact run_fn F hr hb hd hx I1 r q


/-- what a class must have to be made -/
structure Mk (K : PySem.W.Frag) (C f : Addr) : Prop where
  makes : PySem.W.makesIn K C = true
  init : PySem.W.findIn K (.ref C) "__init__" = some (some (.ref f))
  fn : PySem.W.isFn K (.ref f) = true
  kp : PySem.W.keepIn K (.ref C) = true

end

/-! ### keywords -/
/-- the values of the keywords, from the left -/
def PK (X : Cx) (kws : List Keyword) (t : TA) : Prop :=
  ∀ (pos : Pos) (pins : List (Addr × Obj)) (s : Shared) (σ : St) (H : Hp) (Q : List V → Hp → Prop), Inv X pins σ H s → t σ H Q → wpAny (model X.prog X.w) X.A (evalAll ((backToKw pos (keywordEach kws X.env)).map (·.2))) (AP X pins σ Q) X.xe s
section
variable {X : Cx} {CX : CXT} {k : Nat} {f C : Addr} {fd : FuncData} {ps ks : List Str} {sp : Sp} {E : XK} {x m : Str} {p pos apos kpos : Pos} {e o : Expr} {es : List Expr} {kws : List Keyword} {te ta : TE} {t tk : TA} {nm : Option Str}
theorem pk_nil : PK X [] tNil := fun _ _ _ _ H Q I h => wpAny_evalAll_nil ⟨[], H, I, .nil, h⟩
theorem pk_cons (ha : PE X e te) (hr : PK X kws t) : PK X (⟨nm, e, kpos⟩ :: kws) (tCons te t) := by
  intro pos pins s σ H Q I h
  show wpAny _ _ (evalAll ((do let v ← eval e X.env; standAt pos; pure v) :: (backToKw pos (keywordEach kws X.env)).map (·.2))) _ _ s
  refine wpAny_evalAll_cons (wpAny_bind (thn (ha pins s σ H _ I h) fun u s1 ⟨x, H1, I1, r1, q1⟩ => wpAny_bind (wpAny_standAt (wpAny_pure ?_))))
  exact thn (hr pos pins s1 σ H1 _ I1 q1) fun us s2 ⟨xs, H2, I2, r2, q2⟩ => ⟨x :: xs, H2, I2, .cons r1 r2, q2⟩

/-- how a call with keywords binds: g puts the positional values us and the keywords' values ws (names ks) in the parameters' order, defaults among them -/
structure KBinds (K : PySem.W.Frag) (fd : FuncData) (ps ks : List Str) (g : List Value → List Value → List Value) (gV : List V → List V → List V) : Prop where
  to : ∀ (s : Shared) (us ws : List Value), K.In s.heap → (g us ws).length = ps.length → BindsTo s fd ⟨us, ks.zip ws⟩ (ps.zip (g us ws))
  rel : ∀ {vs : List V} {us : List Value} {zs : List V} {ws : List Value}, Vals vs us → Vals zs ws → Vals (gV vs zs) (g us ws)
def tCallK (sp : Sp) (gV : List V → List V → List V) (E : XK) (t tk : TA) : TE := fun σ H Q => t σ H fun vs H1 => tk σ H1 fun zs H2 => sp (gV vs zs) H2 Q E
variable {g : List Value → List Value → List Value} {gV : List V → List V → List V}
theorem run_fnk {pins : List (Addr × Obj)} {σ : St} {H : Hp} {s : Shared} {Q : VK} {us ws : List Value} {vs zs : List V} (F : FnOk X.prog X.w X.K X.mg X.base CX k f fd ps sp) (hr : Room k X.A) (hb : KBinds X.K fd ps ks g gV) (hx : Passes CX X E)
    (I : Inv X pins σ H s) (r : Vals vs us) (rz : Vals zs ws) (h : sp (gV vs zs) H Q E) : wpAny (model X.prog X.w) X.A (call (.ref f) us (ks.zip ws)) (EP X pins σ Q) X.xe s := by
  have r2 := hb.rel r rz
  have hl : (g us ws).length = ps.length := by rw [← r2.length]; exact F.len _ _ _ _ h
  refine wpAny_call (codeAny_mono (F.run X.A X.stack s H ⟨us, ks.zip ws⟩ (g us ws) (gV vs zs) Q E hr I.env0 (hb.to s us ws I.kIn hl) r2 h) fun r s' hq => ?_)
  cases r with
  | error e => exact hx pins σ H s e s' I hq
  | ok fl =>
    cases fl with
    | ret u => exact I.after hq
    | next => exact False.elim hq
    | brk => exact False.elim hq
    | cont => exact False.elim hq
/-- f(e, .., k = v, ..) -/
theorem pe_callK (F : FnOk X.prog X.w X.K X.mg X.base CX k f fd ps sp) (hr : Room k X.A) (hg : Gl X x) (hm : X.mg x = some (.ref f)) (hk : PySem.W.keepIn X.K (.ref f) = true) (hb : KBinds X.K fd ps ks g gV) (hx : Passes CX X E)
    (ha : PA X (e :: es) t) (hkw : PK X kws tk) (hall : (backToKw pos (keywordEach kws X.env)).all (·.1.isSome) = true := by rfl) (hks : (backToKw pos (keywordEach kws X.env)).filterMap (·.1) = ks := by rfl)
    (hdb : (x == ("__debug__" : Str)) = false := by decide) (he : starEach (e :: es) X.env = (false, eval e X.env) :: starEach es X.env := by rfl)
    (hpl : ((backTo pos (starEach (e :: es) X.env)).any (·.1) || (backToKw pos (keywordEach kws X.env)).any (·.1.isNone)) = false := by rfl) :
    PE X (.Call (.Name x p) (e :: es) kws pos) (tCallK sp gV E t tk) := by
  intro pins s σ H Q I h
  refine wpAny_Call_Name_kw (ld_glob I hg hm ?_ hdb)
  refine PySem.W.callWith_KW (h₀ := X.base) I.ok.mod.kin hk hall (thn (ha pos pins s σ H _ I h) fun us s1 ⟨vs, H1, I1, r, q⟩ => ?_) hpl he
  refine thn (hkw pos pins s1 σ H1 _ I1 q) fun ws s2 ⟨zs, H2, I2, rz, q2⟩ => ⟨I2.kIn, ?_⟩
  rw [hks]
  exact run_fnk F hr hb hx I2 r rz q2
end

/-! ### a def's body keeps its promise -/
/-- names: the parameters first -/
structure FnScope (N P : List Str) (sc : Scope) : Prop where
  kind : sc.kind = .function
  co : sc.isCoroutine = false
  gen : sc.isGenerator = false
  nd : N.Nodup
  pre : N.take P.length = P
  par : ∀ x ∈ P, sc.names.lookup x = some .local ∨ sc.names.lookup x = some .cell
  nofree : ∀ y ∈ sc.names, y.2 ≠ .free

theorem bindL_out {kindOf : Str → Option NameKind} {x : Str} : ∀ {binds : List (Str × Value)} {m : Str → Option Value}, (∀ v, (x, v) ∉ binds) → bindL kindOf binds m x = m x
  | [], _, _ => rfl
  | (n, v) :: r, m, h => by
    unfold bindL
    rw [bindL_out fun w hw => h w (List.mem_cons_of_mem _ hw)]
    split
    · have : x ≠ n := by rintro rfl; exact h v List.mem_cons_self
      simp [this]
    · rfl
theorem bindC_out {kindOf : Str → Option NameKind} {x : Str} : ∀ {binds : List (Str × Value)} {m : Str → Option Value}, (∀ v, (x, v) ∉ binds) → bindC kindOf binds m x = m x
  | [], _, _ => rfl
  | (n, v) :: r, m, h => by
    unfold bindC
    rw [bindC_out fun w hw => h w (List.mem_cons_of_mem _ hw)]
    split
    · rfl
    · have : x ≠ n := by rintro rfl; exact h v List.mem_cons_self
      simp [this]
theorem bindL_get {kindOf : Str → Option NameKind} {x : Str} {v : Value} : ∀ {P : List Str} {vs : List Value} {i : Nat} {m : Str → Option Value}, P.Nodup → P[i]? = some x → vs[i]? = some v → kindOf x = some .local →
    bindL kindOf (P.zip vs) m x = some v
  | [], _, _, _, _, h, _, _ => by simp at h
  | _ :: _, [], _, _, _, _, h, _ => by simp at h
  | p :: P, w :: vs, 0, m, nd, h1, h2, hk => by
    simp at h1 h2; subst h1; subst h2
    show bindL kindOf ((p, w) :: P.zip vs) m p = _
    unfold bindL
    rw [bindL_out fun v hv => (List.nodup_cons.mp nd).1 (List.of_mem_zip hv).1, if_pos hk]
    simp
  | p :: P, w :: vs, i + 1, m, nd, h1, h2, hk => by
    show bindL kindOf ((p, w) :: P.zip vs) m x = _
    unfold bindL
    exact bindL_get (i := i) (List.nodup_cons.mp nd).2 (by simpa using h1) (by simpa using h2) hk
theorem bindC_get {kindOf : Str → Option NameKind} {x : Str} {v : Value} : ∀ {P : List Str} {vs : List Value} {i : Nat} {m : Str → Option Value}, P.Nodup → P[i]? = some x → vs[i]? = some v → kindOf x ≠ some .local →
    bindC kindOf (P.zip vs) m x = some v
  | [], _, _, _, _, h, _, _ => by simp at h
  | _ :: _, [], _, _, _, _, h, _ => by simp at h
  | p :: P, w :: vs, 0, m, nd, h1, h2, hk => by
    simp at h1 h2; subst h1; subst h2
    show bindC kindOf ((p, w) :: P.zip vs) m p = _
    unfold bindC
    rw [bindC_out fun v hv => (List.nodup_cons.mp nd).1 (List.of_mem_zip hv).1, if_neg hk]
    simp
  | p :: P, w :: vs, i + 1, m, nd, h1, h2, hk => by
    show bindC kindOf ((p, w) :: P.zip vs) m x = _
    unfold bindC
    exact bindC_get (i := i) (List.nodup_cons.mp nd).2 (by simpa using h1) (by simpa using h2) hk

/-- the names' values at the entry -/
def start (N : List Str) (vs : List V) : St := vs.map some ++ List.replicate (N.length - vs.length) none

/-- the context of a def's body, at its entry; an exception leaves the frame, then lies as CX says -/
def cxOfC (cm : Bool) (CX : CXT) (P : Program) (w : World) (K : PySem.W.Frag) (mg : Str → Option Value) (base : Heap) (N : List Str) (qual : Str) (scope : Scope) (f : Addr) (cd : Value) (A : Around) (outer : List Env) (s : Shared) (H : Hp) (E : XK) : Cx where
  prog := P
  w := w
  K := K
  mg := mg
  base := base
  A := A.deeper (envOfC qual scope s.heap.objs.size f cd)
  N := N
  s_0 := s
  H_0 := H
  env := envOfC qual scope s.heap.objs.size f cd
  outer := outer
  stack := envOfC qual scope s.heap.objs.size f cd :: outer
  ex := []
  calm := cm
  fn := fun _ => true
  pn := []
  xe := fun e s' => wpAny (model P w) (A.deeper (envOfC qual scope s.heap.objs.size f cd)) (leaving (envOfC qual scope s.heap.objs.size f cd) e) (fun _ s'' => CX outer H s E e s'') (fun e' s'' => CX outer H s E e' s'') s'
abbrev cxOf (CX : CXT) (P : Program) (w : World) (K : PySem.W.Frag) (mg : Str → Option Value) (base : Heap) (N : List Str) (qual : Str) (scope : Scope) (f : Addr) (cd : Value) (A : Around) (outer : List Env) (s : Shared) (H : Hp) (E : XK) : Cx := cxOfC true CX P w K mg base N qual scope f cd A outer s H E

theorem cell_has {sc : Scope} {n : Nat} {x : Str} (h : sc.names.lookup x = some .cell) : ∃ c, (cellsFrom n sc.names []).lookup x = some c := by
  have q := PySem.W.cellsFrom_some sc.names n [] (.inl h)
  exact Option.isSome_iff_exists.mp q

theorem inv_start {cm : Bool} {CX : CXT} {P : Program} {w : World} {K : PySem.W.Frag} {mg : Str → Option Value} {base : Heap} {N ps : List Str} {qual : Str} {scope : Scope} {f : Addr} {cd : Value} {A : Around} {outer : List Env} {s s1 : Shared} {H : Hp} {E : XK} {us : List Value} {vs : List V}
    (S : FnScope N ps scope) (hd : cm = true → A.handled = none) (e0 : Env0 P w K mg base A outer s H) (hl : vs.length = ps.length) (r : Vals vs us)
    (x : InCallC s s.heap.objs.size (bindL (envOfC qual scope s.heap.objs.size f cd).kindOf (ps.zip us) fun _ => none) (cellsFrom (s.heap.objs.size + 1) scope.names []) (bindC (envOfC qual scope s.heap.objs.size f cd).kindOf (ps.zip us) fun _ => none) s1) :
    Inv (cxOfC cm CX P w K mg base N qual scope f cd A outer s H E) [] (start N vs) H s1 := by
  have hpl : ps.length ≤ N.length := by have := congrArg List.length S.pre; rw [List.length_take] at this; omega
  obtain ⟨h1, tk, rfl, hk⟩ := x.done
  have noA : ∀ b : Addr, b ∉ (cxOfC cm CX P w K mg base N qual scope f cd A outer s H E).ex := fun b z => absurd (show b ∈ ([] : List Addr) from z) (by simp)
  refine ⟨⟨e0.mod, S.kind, rfl, rfl, Nat.le_refl _, fun y z c h1 h2 => ?_, fun y hy => ?_, fun y c _ h => ?_, fun c => hd c, Around.frames_deeper e0.frames, .inr ⟨rfl, rfl⟩, fun b z => absurd z (noA b), e0.bs, e0.bsz, fun b _ _ => noA b, fun b z => absurd z (noA b), e0.funs, e0.frf⟩,
    rfl, e0.bare, Un.kept hk, ⟨_, x.toInCall.ns, fun i y v h1 h2 h3 => ?_⟩, fun y c h => ⟨_, x.cell y c h⟩, e0.hok.fresh (Nat.le_refl _), fun y c h => ?_, fun p hp => absurd (show p ∈ ([] : List (Addr × Obj)) from hp) (by simp), e0.hok.kept hk, ?_⟩
  · exact name_of_addr x.apart (PySem.mem_of_lookup h1) (PySem.mem_of_lookup h2)
  · have hy : scope.names.lookup y = some .cell ∨ scope.names.lookup y = some .free := hy
    rcases hy with hy | hy
    · exact cell_has hy
    · exact absurd rfl (S.nofree _ (PySem.mem_of_lookup hy))
  · exact Nat.le_of_lt (x.above y c (PySem.mem_of_lookup h))
  · have hi : i < vs.length := by
      unfold start at h2
      by_cases hi : i < vs.length
      · exact hi
      · rw [List.getElem?_append_right (by simpa using hi)] at h2
        rw [List.getElem?_replicate] at h2
        split at h2 <;> cases h2
    have ha : vs[i]? = some v := by
      unfold start at h2
      rw [List.getElem?_append_left (by simpa using hi), List.getElem?_map] at h2
      cases e : vs[i]? with
      | none => rw [e] at h2; cases h2
      | some a => rw [e] at h2; cases h2; rfl
    obtain ⟨u, hu, rv⟩ := r.get ha
    have hp : ps[i]? = some y := by
      rw [← S.pre, List.getElem?_take_of_lt (by omega)]; exact h1
    have ndP : ps.Nodup := by rw [← S.pre]; exact S.nd.sublist (List.take_sublist _ _)
    refine ⟨u, rv, ?_⟩
    rcases S.par y (List.mem_of_getElem? hp) with k | k
    · exact .inl ⟨k, bindL_get ndP hp hu k⟩
    · obtain ⟨c, e⟩ := cell_has (n := s.heap.objs.size + 1) k
      refine .inr ⟨.inl k, c, e, ?_⟩
      have q := x.cell y c e
      rw [bindC_get ndP hp hu (by show scope.names.lookup y ≠ _; rw [k]; decide)] at q
      exact q
  · exact e0.hok.fresh (Nat.le_of_lt (x.above y c (PySem.mem_of_lookup h)))
  · unfold start
    show _ = N.length
    rw [List.length_append, List.length_map, List.length_replicate]
    omega

/-- THE RULE: a def (or a method) of the text, by its body. The body's reading t is chosen for each entry; it is run at the parameters' values -/
theorem fn_ofC {cm : Bool} {CX : CXT} {P : Program} {w : World} {K : PySem.W.Frag} {mg : Str → Option Value} {base : Heap} {k : Nat} {f : Addr} {name qual : Str} {params : Arguments} {body : List Stmt} {scope : Scope} {dV kV doc pm cdv ct oc : Value} {an od : Option Addr}
    {osl : Array (Option Value)} {N ps : List Str} {sp : Sp} (hcm : cm = true → 1 ≤ k) (lk : K.lookup f = some ⟨oc, od, .func (PySem.W.fnOf name qual params body scope dV kV doc pm an cdv ct), osl⟩) (hcd : PySem.W.codeIn K cdv qual = true) (S : FnScope N ps scope)
    (len : ∀ vs H Q E, sp vs H Q E → vs.length = ps.length)
    (hbody : ∀ (A : Around) (outer : List Env) (s : Shared) (H : Hp) (vs : List V) (Q : VK) (E : XK), Room k (A.deeper (envOfC qual scope s.heap.objs.size f cdv)) → sp vs H Q E →
      ∃ t, PSs (cxOfC cm CX P w K mg base N qual scope f cdv A outer s H E) body t ∧ t { nx := fun _ H' => Q .non H', rt := Q } (start N vs) H) :
    FnOk P w K mg base CX (k + 1) f (PySem.W.fnOf name qual params body scope dV kV doc pm an cdv ct) ps sp := by
  refine ⟨len, fun A outer s H args us vs Q E hr e0 hb r hsp => ?_⟩
  have hl := len _ _ _ _ hsp
  have KX : K.In s.heap := e0.mod.kin.keeps fun b o e => (e0.bs b o e).1
  have lim : s.heap.NoLimit := e0.mod.nolimit.keeps fun b o e => (e0.bs b o e).1
  have hkind : ∀ y ∈ ps.zip us, scope.names.lookup y.1 = some .local ∨ (scope.names.lookup y.1 = some .cell ∧ ((cellsFrom (s.heap.objs.size + 1) scope.names []).lookup y.1).isSome = true) := fun ⟨n, v⟩ hy => by
    rcases S.par n (List.of_mem_zip hy).1 with q | q
    · exact .inl q
    · exact .inr ⟨q, PySem.W.cellsFrom_some _ _ _ (.inl q)⟩
  refine codeAny_call_function hr.depth (KX _ _ lk) rfl S.co S.gen rfl (PySem.W.codeRec_of KX hcd) (hb _ _ _ _ ?_)
  refine wpAny_newFunctionEnv_cells S.kind hkind fun env he s1 x => ?_
  subst he
  refine ⟨lim.keeps x.toInCall.keep, codeAny_func ?_⟩
  obtain ⟨t, ht, hq⟩ := hbody A outer s H vs Q E (hr.deeper _) hsp
  have I : Inv (cxOfC cm CX P w K mg base N qual scope f cdv A outer s H E) [] (start N vs) H s1 := inv_start S (fun c => hr.hd (by have := hcm c; omega)) e0 hl r x
  refine wpAny_mono (ht [] s1 (start N vs) H _ I hq) (fun fl s' hs => ?_) fun e s' hs => hs
  have fin : ∀ {σ' : St} {H' : Hp} {v : V} {u : Value}, Inv (cxOfC cm CX P w K mg base N qual scope f cdv A outer s H E) [] σ' H' s' → RelV v u → Q v H' → CE outer P w H s Q u s' :=
    fun {σ' H' v u} J rv q => ⟨v, H', J.os, J.bare, J.base, J.hok, rv, q⟩
  cases fl with
  | ret u =>
    obtain ⟨v, σ', H', J, rv, q⟩ := hs
    exact fin J rv q
  | next =>
    obtain ⟨σ', H', J, q⟩ := hs
    exact fin (v := V.non) (u := Value.none) J rfl q
  | brk =>
    obtain ⟨_, _, _, q⟩ := hs
    exact False.elim q
  | cont =>
    obtain ⟨_, _, _, q⟩ := hs
    exact False.elim q
theorem fn_of {CX : CXT} {P : Program} {w : World} {K : PySem.W.Frag} {mg : Str → Option Value} {base : Heap} {k : Nat} {f : Addr} {name qual : Str} {params : Arguments} {body : List Stmt} {scope : Scope} {dV kV doc pm cdv ct oc : Value} {an od : Option Addr}
    {osl : Array (Option Value)} {N ps : List Str} {sp : Sp} (lk : K.lookup f = some ⟨oc, od, .func (PySem.W.fnOf name qual params body scope dV kV doc pm an cdv ct), osl⟩) (hcd : PySem.W.codeIn K cdv qual = true) (S : FnScope N ps scope)
    (len : ∀ vs H Q E, sp vs H Q E → vs.length = ps.length)
    (hbody : ∀ (A : Around) (outer : List Env) (s : Shared) (H : Hp) (vs : List V) (Q : VK) (E : XK), Room (k + 1) (A.deeper (envOfC qual scope s.heap.objs.size f cdv)) → sp vs H Q E →
      ∃ t, PSs (cxOf CX P w K mg base N qual scope f cdv A outer s H E) body t ∧ t { nx := fun _ H' => Q .non H', rt := Q } (start N vs) H) :
    FnOk P w K mg base CX (k + 2) f (PySem.W.fnOf name qual params body scope dV kV doc pm an cdv ct) ps sp :=
  fn_ofC (cm := true) (fun _ => Nat.succ_le_succ (Nat.zero_le k)) lk hcd S len hbody
end L2

namespace L2
open PySem PySem.Spec PyProof.Rows
section
variable {X : Cx} {x : Str} {p pos : Pos} {e : Expr} {es : List Expr} {t : TA} {id T : String} {r : List V → Hp → VK → Prop}

def tCB (r : List V → Hp → VK → Prop) (t : TA) : TE := fun σ H Q => t σ H fun vs H1 => r vs H1 Q
/-- f(e, ..), f a built-in function -/
theorem pe_callB (hc : CallR X (.builtin id) r) (hg : Gl X x) (hm : X.mg x = none) (hv : bootBuiltins x = some (.builtin id)) (ha : PA X (e :: es) t) (hn : x ≠ "__name__" := by decide) (hdb : (x == ("__debug__" : Str)) = false := by decide)
    (he : starEach (e :: es) X.env = (false, eval e X.env) :: starEach es X.env := by rfl) (hpl : (backTo pos (starEach es X.env)).any (·.1) = false := by rfl) : PE X (.Call (.Name x p) (e :: es) [] pos) (tCB r t) := by
  intro pins s σ H Q I h
  refine wpAny_Call_Name_kw (ld_blt I hg hm hv ?_ hn hdb)
  exact PyProof.Rows.callWith_builtin1 (thn (ha pos pins s σ H _ I h) fun us s1 ⟨vs, H1, I1, r1, q1⟩ => hc pins s1 σ H1 vs us Q I1 r1 q1) he hpl
/-- T(e, ..), T a built-in type -/
theorem pe_callTy (hc : CallR X (.type T) r) (hg : Gl X x) (hm : X.mg x = none) (hv : bootBuiltins x = some (.type T)) (ha : PA X (e :: es) t) (hn : x ≠ "__name__" := by decide) (hdb : (x == ("__debug__" : Str)) = false := by decide)
    (he : starEach (e :: es) X.env = (false, eval e X.env) :: starEach es X.env := by rfl) (hpl : (backTo pos (starEach es X.env)).any (·.1) = false := by rfl) : PE X (.Call (.Name x p) (e :: es) [] pos) (tCB r t) := by
  intro pins s σ H Q I h
  refine wpAny_Call_Name_kw (ld_blt I hg hm hv ?_ hn hdb)
  exact PyProof.Rows.callWith_type1 (thn (ha pos pins s σ H _ I h) fun us s1 ⟨vs, H1, I1, r1, q1⟩ => hc pins s1 σ H1 vs us Q I1 r1 q1) he hpl
end
end L2

namespace HT
open PySem PyProof.Rows

/-- t < u of tuples of ints -/
def lexLt : List Int → List Int → Bool
  | [], [] => false
  | [], _ :: _ => true
  | _ :: _, [] => false
  | x :: xs, y :: ys => if x = y then lexLt xs ys else decide (x < y)
theorem lexLt_cons (x y : Int) (xs ys : List Int) : lexLt (x :: xs) (y :: ys) = if x = y then lexLt xs ys else decide (x < y) := rfl
theorem lexLt_nil_nil : lexLt [] [] = false := rfl
theorem lexLt_nil_cons (y : Int) (ys : List Int) : lexLt [] (y :: ys) = true := rfl
theorem lexLt_cons_nil (x : Int) (xs : List Int) : lexLt (x :: xs) [] = false := rfl

theorem eqAt_int (A : Around) (s : Shared) (a : Int) (t : Tok) (c : Int) (u : Tok) : ∃ e, SeqAt.EqAt A s (.int a t) (.int c u) e ∧ (e = true ↔ a = c) :=
  ⟨(a == c), SeqAt.EqAt.int_int a t c u, by simp⟩
theorem rcLt_int (A : Around) (s : Shared) (a : Int) (t : Tok) (c : Int) (u : Tok) (prog : Program) (w : World) (E : Value → Shared → Prop) (Q : Value → Shared → Prop) (h : Q (.bool (decide (a < c))) s) :
    wpAny (model prog w) A (richCompare .Lt (.int a t) (.int c u)) Q E s :=
  (PyProof.Rows.lt_int h : wpAny (model prog w) A (compareOp .Lt (.int a t) (.int c u)) Q E s)

section
open PySem.SeqAt
open PySem.AutoSeq1 (wpAny_loadPart')
open PySem.MeetsSeq PySem.MeetsSeq2 PySem.MeetsSeq3

theorem tuple_lt_ints (l b : Addr) (items items2 : Array Value) (n n2 : Nat) (dd dd2 : Option Addr) (sl sl2 : Array (Option Value)) (ns ms : List Int) (hi : IntsAre items.toList ns) (hj : IntsAre items2.toList ms) :
    Meets (Builtin.«tuple.__lt__» ⟨[.ref l, .ref b], []⟩)
      (fun _ R s => s.heap.get? l = some { cls := .type "tuple", dict := dd, data := .seq items n, slots := sl } ∧ s.heap.get? b = some { cls := .type "tuple", dict := dd2, data := .seq items2 n2, slots := sl2 } ∧
        R (.ok (.ret (.bool (lexLt ns ms)))) s) :=
  .of_wp fun prog w A R s h => by
    obtain ⟨hp, g, d, tk, os⟩ := s; obtain ⟨hl, hb, h⟩ := h
    have f2 := AutoSeq1.sub_tuple_tuple
    have z1 : items.size = ns.length := by rw [← hi.length]; simp
    have z2 : items2.size = ms.length := by rw [← hj.length]; simp
    wp_walk using wpAny_loadPart' hl, wpAny_loadPart' hb, wpAny_forIn_list _ (fun rest b s' => b.1 = none ∧ s' = ⟨hp, g, d, tk, os⟩ ∧ ∃ (vs ws : List Value) (ns' ms' : List Int), rest = vs.zip ws ∧
      IntsAre vs ns' ∧ IntsAre ws ms' ∧ ns'.length + items2.size = ms'.length + items.size ∧ R (.ok (.ret (.bool (lexLt ns' ms')))) ⟨hp, g, d, tk, os⟩) _
    case turn =>
      rintro ⟨y, x⟩ rest b s' ⟨hb', rfl, vs, ws, ns', ms', hz, hvi, hwi, hlen, hR⟩
      cases hvi with
      | nil => rw [List.zip_nil_left] at hz; cases hz
      | cons a t hvi' =>
        cases hwi with
        | nil => rw [List.zip_nil_right] at hz; cases hz
        | cons c u hwi' =>
          rw [List.zip_cons_cons] at hz
          injection hz with hyx hrest
          injection hyx with hy hx
          subst hy hx
          rw [lexLt_cons] at hR
          simp only [List.length_cons] at hlen
          obtain ⟨e, he, hiff⟩ := eqAt_int A.in1 ⟨hp, g, d, tk, os⟩ a t c u
          refine wpAny_bind (he prog w _ _ ?_)
          cases e with
          | true =>
            rw [if_pos (hiff.mp rfl)] at hR
            wp_walk
            exact ⟨rfl, rfl, _, _, _, _, hrest, hvi', hwi', by omega, hR⟩
          | false =>
            rw [if_neg (fun q => absurd (hiff.mpr q) Bool.false_ne_true)] at hR
            have hri := rcLt_int A.in1 ⟨hp, g, d, tk, os⟩ a t c u prog w
            wp_walk using hri
            exact ⟨_, rfl, by simpa using hR⟩
    case fin =>
      rintro ⟨b1, b2⟩ s' ⟨hb', rfl, vs, ws, ns', ms', hz, hvi, hwi, hlen, hR⟩
      simp only at hb'
      subst hb'
      have hv : lexLt ns' ms' = decide (items.size < items2.size) := by
        cases hvi with
        | nil =>
          cases hwi with
          | nil =>
            simp only [List.length_nil] at hlen
            rw [lexLt_nil_nil]
            exact (decide_eq_false (by omega)).symm
          | cons c u hw =>
            simp only [List.length_nil, List.length_cons] at hlen
            rw [lexLt_nil_cons]
            exact (decide_eq_true (by omega)).symm
        | cons a t hv =>
          cases hwi with
          | nil =>
            simp only [List.length_nil, List.length_cons] at hlen
            rw [lexLt_cons_nil]
            exact (decide_eq_false (by omega)).symm
          | cons c u hw =>
            rw [List.zip_cons_cons] at hz
            cases hz
      rw [hv] at hR
      wp_walk
      exact ⟨_, rfl, by simpa [Builtin.Tuple.tupleCompareSizes] using hR⟩
    case h =>
      exact ⟨rfl, rfl, items.toList, items2.toList, ns, ms, rfl, hi, hj, by omega, h⟩
end

section
variable {prog : Program} {w : World} {A : Around} {E : Value → Shared → Prop} {s : Shared}

theorem lt_tupInts {l b : Addr} {items items2 : Array Value} {ns ms : List Int} {Q : Value → Shared → Prop} (hl : IsTup s.heap l items) (hb : IsTup s.heap b items2) (hi : IntsAre items.toList ns) (hj : IntsAre items2.toList ms)
    (hu : A.units < cLine) (h : Q (.bool (lexLt ns ms)) s) : wpAny (model prog w) A (compareOp .Lt (.ref l) (.ref b)) Q E s := by
  obtain ⟨⟨cls, dd, data, sl⟩, ho, hc, n, hd⟩ := id hl
  obtain ⟨⟨cls2, dd2, data2, sl2⟩, ho2, hc2, n2, hd2⟩ := id hb
  simp only at hc hd hc2 hd2
  subst hc hd hc2 hd2
  exact richCompare_meets_room (op := .Lt) ⟨_, ho, rfl⟩ ⟨_, ho2, rfl⟩ PySem.F.slot_tuple_lt PySem.F.entry_tuple_lt (PySem.F.args_tuple_lt_2 _ _) (tuple_lt_ints l b items items2 n n2 dd dd2 sl sl2 ns ms hi hj)
    ⟨ho, ho2, show Value.bool (lexLt ns ms) ≠ Value.notImplemented ∧ Q (.bool (lexLt ns ms)) s from ⟨(fun x => nomatch x), h⟩⟩ hu

/-- t + u, t not empty -/
theorem cat_tup {t b : Addr} {vs ws : List Value} {Q : Value → Shared → Prop} (ht : IsTup s.heap t vs.toArray) (hb : IsTup s.heap b ws.toArray) (hv : vs ≠ [])
    (h1 : ws = [] → Q (.ref t) s) (h2 : ws ≠ [] → Q (.ref s.heap.objs.size) { s with heap := s.heap.push { cls := .type "tuple", data := .seq (vs ++ ws).toArray } })
    (hsz : vs.length + ws.length ≤ sizeLine) : wpAny (model prog w) A (binaryOp .Add (.ref t) (.ref b)) Q E s := by
  obtain ⟨⟨cls, dd, data, sl⟩, ho, hc, n, hd⟩ := id ht
  obtain ⟨⟨cls2, dd2, data2, sl2⟩, ho2, hc2, n2, hd2⟩ := id hb
  simp only at hc hd hc2 hd2
  subst hc hd hc2 hd2
  have e : vs.toArray ++ ws.toArray = (vs ++ ws).toArray := by simp
  by_cases hw : ws = []
  · exact concat_meets ⟨_, ho, rfl⟩ ⟨_, ho2, rfl⟩ noFill_tuple_add seq_tuple_add PySem.F.slot_tuple_add PySem.F.entry_tuple_add (PySem.F.args_tuple_add_2 _ _)
      (tuple_addW1 t b vs.toArray ws.toArray n n2 dd dd2 sl sl2 (by simpa using hv) (by simp [hw])) ⟨ho, ho2, h1 hw⟩
  · refine concat_meets ⟨_, ho, rfl⟩ ⟨_, ho2, rfl⟩ noFill_tuple_add seq_tuple_add PySem.F.slot_tuple_add PySem.F.entry_tuple_add (PySem.F.args_tuple_add_2 _ _)
      (tuple_addW2 t b vs.toArray ws.toArray n n2 dd dd2 sl sl2 (by simpa using hv) (by simpa using hw) (by rw [List.size_toArray, List.size_toArray]; exact hsz)) ⟨ho, ho2, ?_⟩
    rw [e]
    exact h2 hw

/-! ### t[a:b], not the whole -/
/-- a slice's bound as a place among n (d where it is left out) -/
def sIx (n d : Nat) : Option Int → Nat
  | none => d
  | some v => if v < 0 then (v + (n : Int)).toNat else min v.toNat n
theorem sIx_nat (n d k : Nat) : sIx n d (some (k : Int)) = min k n := by
  show (if (k : Int) < 0 then ((k : Int) + (n : Int)).toNat else min (k : Int).toNat n) = min k n
  rw [if_neg (by omega), Int.toNat_natCast]
theorem sIx_le (n d : Nat) (hd : d ≤ n) (o : Option Int) : sIx n d o ≤ n := by
  cases o with
  | none => exact hd
  | some v =>
    show (if v < 0 then (v + (n : Int)).toNat else min v.toNat n) ≤ n
    by_cases hv : v < 0
    · rw [if_pos hv]; omega
    · rw [if_neg hv]; exact Nat.min_le_right _ _
theorem clip_eq (v : Int) (n d : Nat) : (if v < 0 then max (v + (n : Int)) 0 else min v (n : Int)) = ((sIx n d (some v) : Nat) : Int) := by
  show (if v < 0 then max (v + (n : Int)) 0 else min v (n : Int)) = (((if v < 0 then (v + (n : Int)).toNat else min v.toNat n) : Nat) : Int)
  by_cases hv : v < 0
  · simp only [if_pos hv]; omega
  · simp only [if_neg hv]; omega
theorem adjust_gen (lo hi : Option Int) (n : Nat) : Builtin.Slice.sliceAdjust lo hi 1 (n : Int) = (((sIx n 0 lo : Nat) : Int), ((sIx n n hi : Nat) : Int)) := by
  have h1 : ¬ ((1 : Int) < 0) := by omega
  unfold Builtin.Slice.sliceAdjust
  simp only [h1, if_false]
  refine Prod.ext ?_ ?_
  · cases lo with
    | none => rfl
    | some v => exact clip_eq v n 0
  · cases hi with
    | none => rfl
    | some v => exact clip_eq v n n
theorem places_gen (i j : Nat) : Builtin.Slice.slicePlaces (i : Int) (j : Int) 1 = j - i := by
  unfold Builtin.Slice.slicePlaces
  have h1 : (1 : Int) > 0 := by omega
  simp only [h1, if_true, Int.ediv_one]
  split <;> omega
theorem slicePart_ {v : Value} {o : Option Int} {Q : Option Int → Shared → Prop} (p : IsPart v o) (h : Q o s) : wpAny (model prog w) A (Builtin.Slice.slicePartIndex v) Q E s := by
  cases p with
  | none => exact slicePart_none h
  | int i t => exact slicePart_int h
theorem sliceApplied_gen {sl : Addr} {vl vu : Value} {lo hi : Option Int} {n : Nat} {Q : Int × Int × Nat → Shared → Prop} (hs : s.heap.IsSliceOf sl vl vu .none) (pl : IsPart vl lo) (pu : IsPart vu hi)
    (h : Q (((sIx n 0 lo : Nat) : Int), 1, sIx n n hi - sIx n 0 lo) s) : wpAny (model prog w) A (Builtin.Slice.sliceApplied (.ref sl) (pure (n : Int))) Q E s := by
  obtain ⟨os, hos, hcs, hds⟩ := id hs
  unfold Builtin.Slice.sliceApplied Builtin.Slice.sliceFields
  refine wpAny_bind (wpAny_bind (wpAny_field hos hds (x := vl) rfl (wpAny_bind (wpAny_field hos hds (x := vu) rfl (wpAny_bind (wpAny_field hos hds (x := .none) rfl (wpAny_pure ?_)))))))
  refine wpAny_bind (slicePart_none ?_)
  show wpAny _ _ (if ((1 : Int) == 0) = true then _ else _) _ _ s
  rw [if_neg (by decide)]
  refine wpAny_bind (slicePart_ pl (wpAny_bind (slicePart_ pu (wpAny_bind (wpAny_pure ?_)))))
  show wpAny _ _ (match Builtin.Slice.sliceAdjust lo hi 1 (n : Int) with | (lo, hi) => pure (lo, (1 : Int), Builtin.Slice.slicePlaces lo hi 1)) _ _ s
  rw [adjust_gen lo hi n]
  show wpAny _ _ (pure (((sIx n 0 lo : Nat) : Int), (1 : Int), Builtin.Slice.slicePlaces ((sIx n 0 lo : Nat) : Int) ((sIx n n hi : Nat) : Int) 1)) _ _ s
  rw [places_gen]
  exact wpAny_pure h
theorem pick_gen (xs : Array Value) (i k : Nat) : ((List.range k).filterMap fun (m : Nat) => xs[((i : Int) + (m : Int) * 1).toNat]?).toArray = ((xs.toList.drop i).take k).toArray := by
  have e : (fun (m : Nat) => xs[((i : Int) + (m : Int) * 1).toNat]?) = fun m => xs[i + m]? := by
    funext m
    have : ((i : Int) + (m : Int) * 1).toNat = i + m := by omega
    rw [this]
  rw [e]
  have := pick_run xs i k
  rw [List.filterMap_map] at this
  have e2 : ((fun x => xs[x]?) ∘ fun x => i + x) = fun m => xs[i + m]? := rfl
  rw [e2] at this
  rw [this]

theorem getItem_tuple_cut {t sl : Addr} {items : Array Value} {vl vu : Value} {lo hi : Option Int} {Q : Value → Shared → Prop} (ht : IsTup s.heap t items) (hs : s.heap.IsSliceOf sl vl vu .none) (pl : IsPart vl lo) (pu : IsPart vu hi)
    (hw : ¬ (sIx items.size 0 lo = 0 ∧ sIx items.size items.size hi = items.size))
    (h : Q (.ref s.heap.objs.size) { s with heap := s.heap.push { cls := .type "tuple", data := .seq ((items.toList.drop (sIx items.size 0 lo)).take (sIx items.size items.size hi - sIx items.size 0 lo)).toArray } })
    (hsz : items.size ≤ sizeLine) : wpAny (model prog w) A (getItem (.ref t) (.ref sl)) Q E s := by
  have htake : sizeOk (.seq ((items.toList.drop (sIx items.size 0 lo)).take (sIx items.size items.size hi - sIx items.size 0 lo)).toArray) := by
    show ((items.toList.drop (sIx items.size 0 lo)).take (sIx items.size items.size hi - sIx items.size 0 lo)).toArray.size ≤ sizeLine
    rw [List.size_toArray, List.length_take, List.length_drop, Array.length_toList]
    omega
  have hj : sIx items.size items.size hi ≤ items.size := sIx_le _ _ (Nat.le_refl _) hi
  obtain ⟨os, hos, hcs, hds⟩ := id hs
  have hTs : s.TypeIs (.ref sl) "slice" := ⟨os, hos, hcs⟩
  unfold getItem
  try with_reducible refine wpAny_holding ?_
  first | refine wpAny_bind (wpAny_pure ?_) | skip
  refine wpAny_bind (wpAny_sequenceKey ht.typeIs (by decide) ?_)
  refine wpAny_bind (wpAny_callSpecial?_slot (name := Str.ofString "__getitem__") ht.typeIs PyProof.Rows.slot_tuple_getitem
    (wpAny_call_entry PyProof.Rows.slot_tuple_getitem ht.typeIs entry_tuple_getitem ?_ (args_tuple_getitem _ _)))
  show wpAny _ _ (Builtin.Tuple.tupleItemsOf (.ref t) >>= _) _ _ s
  refine wpAny_bind (tupleItemsOf_ ht ?_)
  refine wpAny_bind (wpAny_typeOf hTs ?_)
  rw [if_pos (by decide)]
  refine wpAny_bind (sliceApplied_gen hs pl pu ?_)
  have hno : ¬ ((((sIx items.size 0 lo : Nat) : Int) == 0 && (1 : Int) == 1 && (sIx items.size items.size hi - sIx items.size 0 lo) == items.size) = true) := by
    intro q
    rw [Bool.and_eq_true, Bool.and_eq_true] at q
    have q1 : ((sIx items.size 0 lo : Nat) : Int) = 0 := eq_of_beq q.1.1
    have q2 : sIx items.size items.size hi - sIx items.size 0 lo = items.size := eq_of_beq q.2
    exact hw ⟨by omega, by omega⟩
  show wpAny _ _ (if (((sIx items.size 0 lo : Nat) : Int) == 0 && (1 : Int) == 1 && (sIx items.size items.size hi - sIx items.size 0 lo) == items.size) = true then _ else _) _ _ s
  rw [if_neg hno, pick_gen]
  first
    | exact wpAny_bind (m := Builtin.Tuple.tupleExact _) (wpAny_newObj_type (wpAny_pure ⟨_, rfl, wpAny_pure h⟩) htake)
    | exact wpAny_bind (m := Builtin.Tuple.tupleExact _) (wpAny_newObj_type (wpAny_bind (wpAny_pure (wpAny_pure ⟨_, rfl, wpAny_pure h⟩))) htake)
    | exact wpAny_bind (wpAny_bind (m := Builtin.Tuple.tupleExact _) (wpAny_newObj_type (wpAny_pure (wpAny_pure ⟨_, rfl, wpAny_pure h⟩)) htake))
    | exact wpAny_bind (wpAny_bind (m := Builtin.Tuple.tupleExact _) (wpAny_newObj_type (wpAny_pure ⟨_, rfl, wpAny_pure h⟩) htake))
end
end HT

namespace L2
open PySem PySem.Spec PyProof.Rows

/-! ### the parts of a slice -/
abbrev TO := St → Hp → (Option Int → Hp → Prop) → Prop
/-- a slice's part (left out, or an int) -/
def PO (X : Cx) (e : Option Expr) (t : TO) : Prop :=
  ∀ (pins : List (Addr × Obj)) (s : Shared) (σ : St) (H : Hp) (Q : Option Int → Hp → Prop), Inv X pins σ H s → t σ H Q →
    wpAny (model X.prog X.w) X.A (evalPart e X.env) (fun u s' => ∃ o H', Inv X pins σ H' s' ∧ IsPart u o ∧ Q o H') X.xe s
def tNoPart : TO := fun _ H Q => Q none H
def tPart (t : TE) : TO := fun σ H Q => t σ H fun x H1 => ∃ i, x = .int i ∧ Q (some i) H1

theorem intsAre_of {ns : List Int} : ∀ {us : List Value}, Vals (ns.map V.int) us → IntsAre us ns := by
  induction ns with
  | nil => intro us r; rw [List.map_nil] at r; cases r; exact .nil
  | cons n ns ih =>
    intro us r
    rw [List.map_cons] at r
    cases r with
    | cons r1 r2 =>
      obtain ⟨t, e⟩ := r1
      subst e
      exact .cons n t (ih r2)

section
variable {X : Cx} {e : Expr} {te : TE} {lo hi : Option Expr} {tl th : TO} {pos p2 : Pos}

theorem po_none : PO X none tNoPart := by
  intro pins s σ H Q I h
  rw [evalPart_none]
  exact wpAny_pure ⟨none, H, I, .none, h⟩
theorem po_some (h : PE X e te) : PO X (some e) (tPart te) := by
  intro pins s σ H Q I hw
  rw [evalPart_some]
  refine thn (h pins s σ H _ I hw) fun u s1 ⟨x, H1, I1, r1, q1⟩ => ?_
  obtain ⟨i, rfl, q⟩ := q1
  obtain ⟨t, rfl⟩ := r1
  exact ⟨some i, H1, I1, .int i t, q⟩

/-- what a slice of a value is, by values: the slice object stands at sl -/
def SlR (X : Cx) (r : V → Option Int → Option Int → Hp → VK → Prop) : Prop :=
  ∀ (pins : List (Addr × Obj)) (s : Shared) (σ : St) (H : Hp) (x : V) (v vl vu : Value) (lo hi : Option Int) (sl : Addr) (Q : VK), Inv X pins σ H s → RelV x v → s.heap.IsSliceOf sl vl vu .none → IsPart vl lo → IsPart vu hi → r x lo hi H Q →
    ∃ T id, typeLookup (.type T) "__getitem__" = pure (some (.builtin id)) ∧ s.TypeIs v T ∧ wpAny (model X.prog X.w) X.A (getItem v (.ref sl)) (EP X pins σ Q) X.xe s
theorem SlR.or {r r' : V → Option Int → Option Int → Hp → VK → Prop} (h : SlR X r) (h' : SlR X r') : SlR X (fun x lo hi H Q => r x lo hi H Q ∨ r' x lo hi H Q) := by
  intro pins s σ H x v vl vu lo hi sl Q I rx hs pl pu q
  rcases q with q | q
  · exact h pins s σ H x v vl vu lo hi sl Q I rx hs pl pu q
  · exact h' pins s σ H x v vl vu lo hi sl Q I rx hs pl pu q
def tSl (r : V → Option Int → Option Int → Hp → VK → Prop) (te : TE) (tl th : TO) : TE := fun σ H Q => te σ H fun x H1 => tl σ H1 fun l H2 => th σ H2 fun u H3 => r x l u H3 Q
/-- a[lo:hi], any a -/
theorem pe_slice {r : V → Option Int → Option Int → Hp → VK → Prop} (hr : SlR X r) (he : PE X e te) (hl : PO X lo tl) (hu : PO X hi th) : PE X (.Subscript e (.Slice lo hi none p2) pos) (tSl r te tl th) := by
  intro pins s σ H Q I h
  refine Subscript_ (thn (he pins s σ H _ I h) fun v s1 ⟨x, H1, I1, r1, q1⟩ => ?_)
  refine wpAny_Slice (thn (hl pins s1 σ H1 _ I1 q1) fun vl s2 ⟨l, H2, I2, pl, q2⟩ => thn (hu pins s2 σ H2 _ I2 q2) fun vu s3 ⟨u, H3, I3, pu, q3⟩ => ?_)
  rw [evalPart_none]
  refine wpAny_pure ?_
  have I4 : Inv X pins σ H3 { s3 with heap := s3.heap.push { cls := .type "slice", data := .fields #[vl, vu, .none] } } := I3.kept (t' := s3.toks) fun b ob q => Heap.get?_push_of_some _ q
  obtain ⟨T, id, hT, ht, hg⟩ := hr pins { s3 with heap := s3.heap.push { cls := .type "slice", data := .fields #[vl, vu, .none] } } σ H3 x v vl vu l u s3.heap.objs.size Q I4 r1 (Heap.IsSliceOf.new ..) pl pu q3
  show wpAny (model X.prog X.w) X.A (subscriptTail e (.Slice lo hi none p2) v (.ref s3.heap.objs.size)) (EP X pins σ Q) X.xe { s3 with heap := s3.heap.push { cls := .type "slice", data := .fields #[vl, vu, .none] } }
  exact tail_any (ops := [.ref s3.heap.objs.size, v]) ht hT hg (by with_unfolding_all rfl)

/-- the items of xs[lo:hi] -/
def cutV (xs : List V) (lo hi : Option Int) : List V := (xs.drop (HT.sIx xs.length 0 lo)).take (HT.sIx xs.length xs.length hi - HT.sIx xs.length 0 lo)
theorem cutV_length (xs : List V) (lo hi : Option Int) : (cutV xs lo hi).length ≤ xs.length := by
  unfold cutV
  rw [List.length_take, List.length_drop]
  omega
/-- t[lo:hi], not the whole of it (the whole would be t itself) -/
def rSlT (K : PySem.W.Frag) : V → Option Int → Option Int → Hp → VK → Prop := fun x lo hi H Q => ∃ a xs, x = .ref a ∧ SqT K H a xs ∧
  ¬ (HT.sIx xs.length 0 lo = 0 ∧ HT.sIx xs.length xs.length hi = xs.length) ∧ ∀ p, H p = none → Q (.ref p) (upd H p (.tup (cutV xs lo hi)))
theorem sl_tup : SlR X (rSlT X.K) := by
  intro pins s σ H x v vl vu lo hi sl Q I rx hs pl pu h
  obtain ⟨a, xs, rfl, hx, hw, q⟩ := h
  cases rx
  obtain ⟨its, r, ht, hz⟩ := I.tuple hx
  have hlen : its.toArray.size = xs.length := by rw [List.size_toArray]; exact r.length.symm
  refine ⟨"tuple", _, PyProof.Rows.slot_tuple_getitem.lookup, ht.typeIs, ?_⟩
  refine HT.getItem_tuple_cut ht hs pl pu (by rw [hlen]; exact hw) ?_ (by rw [hlen]; exact hz)
  rw [hlen]
  refine ⟨.ref s.heap.objs.size, _, I.laid (t' := s.toks) (o := .tup (cutV xs lo hi)) (fun b ob q => Heap.get?_push_of_some _ q) (Nat.le_refl _) ?_, rfl, q _ (I.hok.fresh (Nat.le_refl _))⟩
  exact ⟨Nat.le_trans (cutV_length xs lo hi) hz, _, (r.drop (HT.sIx xs.length 0 lo)).take (HT.sIx xs.length xs.length hi - HT.sIx xs.length 0 lo), IsTup.new _ _⟩

/-! ### t < u, t + u -/
/-- t + u, t not empty: u empty gives t itself -/
def rCatT (K : PySem.W.Frag) : R2 := fun x y H Q => ∃ a b xs ys, x = .ref a ∧ y = .ref b ∧ SqT K H a xs ∧ SqT K H b ys ∧ xs ≠ [] ∧ xs.length + ys.length ≤ sizeLine ∧
  (ys = [] → Q (.ref a) H) ∧ (ys ≠ [] → ∀ p, H p = none → Q (.ref p) (upd H p (.tup (xs ++ ys))))
theorem Vals.nil_iff {xs : List V} {us : List Value} (r : Vals xs us) : us = [] ↔ xs = [] := by
  cases r with
  | nil => simp
  | cons _ _ => simp
theorem op_catT : OpR X (binaryOp .Add) (rCatT X.K) := by
  intro pins s σ H x y v u Q I rx ry h
  obtain ⟨a, b, xs, ys, rfl, rfl, ha, hb, hx, hz, q1, q2⟩ := h
  cases rx
  cases ry
  obtain ⟨its, r1, p1, _⟩ := I.tuple ha
  obtain ⟨its2, r2, p2, _⟩ := I.tuple hb
  refine HT.cat_tup p1 p2 (fun z => hx (r1.nil_iff.mp z)) (fun z => ⟨.ref a, H, I, rfl, q1 (r2.nil_iff.mp z)⟩) (fun z => ?_) (by rw [← r1.length, ← r2.length]; exact hz)
  refine ⟨.ref s.heap.objs.size, _, I.laid (t' := s.toks) (o := .tup (xs ++ ys)) (fun b ob q => Heap.get?_push_of_some _ q) (Nat.le_refl _) ?_, rfl, q2 (fun w => z (r2.nil_iff.mpr w)) _ (I.hok.fresh (Nat.le_refl _))⟩
  exact ⟨by rw [List.length_append]; exact hz, _, r1.append r2, IsTup.new _ _⟩
end
end L2

namespace L2
open PySem PySem.Spec PyProof.Rows

/-! ### places -/
/-- the place that an index of any sign means -/
def ixN (n : Nat) (i : Int) : Option Nat := if 0 ≤ i then (if i < n then some i.toNat else none) else if -(n : Int) ≤ i then some (i + n).toNat else none
def atI {α : Type} (xs : List α) (i : Int) : Option α := (ixN xs.length i).bind fun j => xs[j]?
theorem ixN_seq {n : Nat} {i : Int} {j : Nat} (h : ixN n i = some j) : seqIndex? i n = some j ∧ j < n ∧ -(n : Int) ≤ i ∧ i < n := by
  unfold ixN at h
  by_cases h0 : 0 ≤ i
  · rw [if_pos h0] at h
    by_cases h1 : i < n
    · rw [if_pos h1] at h
      have e : i.toNat = j := Option.some.inj h
      exact ⟨by rw [seqIndex_of h0 h1, e], by omega, by omega, h1⟩
    · rw [if_neg h1] at h; cases h
  · rw [if_neg h0] at h
    by_cases h1 : -(n : Int) ≤ i
    · rw [if_pos h1] at h
      have e : (i + n).toNat = j := Option.some.inj h
      exact ⟨by rw [seqIndex_neg (by omega) h1, e], by omega, h1, by omega⟩
    · rw [if_neg h1] at h; cases h
theorem atI_get {α : Type} {xs : List α} {i : Int} {v : α} (h : atI xs i = some v) : ∃ j, seqIndex? i xs.length = some j ∧ xs[j]? = some v ∧ j < xs.length ∧ -(xs.length : Int) ≤ i ∧ i < xs.length := by
  unfold atI at h
  cases e : ixN xs.length i with
  | none => rw [e] at h; cases h
  | some j =>
    rw [e] at h
    obtain ⟨h1, h2, h3, h4⟩ := ixN_seq e
    exact ⟨j, h1, h, h2, h3, h4⟩
theorem atI_nat {α : Type} {xs : List α} {j : Nat} {v : α} (h : xs[j]? = some v) : atI xs (j : Int) = some v := by
  have hj : j < xs.length := (List.getElem?_eq_some_iff.mp h).1
  have e : ixN xs.length (j : Int) = some j := by
    unfold ixN
    rw [if_pos (by omega), if_pos (by omega)]; simp
  unfold atI; rw [e]; exact h

/-! ### what may be subscripted -/
/-- what stands as an index of a plain subscript -/
def PlainIx (b : Expr) : Prop := ∀ o i, subscripted b false o i = operate [o, i] (getItem o i)
/-- a subscript by values -/
def IxR (X : Cx) (r : R2) : Prop :=
  ∀ (value slice : Expr) (pins : List (Addr × Obj)) (s : Shared) (σ : St) (H : Hp) (x y : V) (v u : Value) (Q : VK), Inv X pins σ H s → RelV x v → RelV y u → r x y H Q →
    subscripted slice false v u = operate [v, u] (getItem v u) → wpAny (model X.prog X.w) X.A (subscriptTail value slice v u) (EP X pins σ Q) X.xe s
/-- a call of a builtin's method by values: the receiver, the arguments -/
def MtR (X : Cx) (id : String) (r : V → List V → Hp → VK → Prop) : Prop :=
  ∀ (pins : List (Addr × Obj)) (s : Shared) (σ : St) (H : Hp) (x : V) (xs : List V) (v : Value) (us : List Value) (Q : VK), Inv X pins σ H s → RelV x v → Vals xs us → r x xs H Q →
    wpAny (model X.prog X.w) X.A (call (.builtin id) (v :: us)) (EP X pins σ Q) X.xe s
section
variable {X : Cx} {a b : Expr} {ta tb : TE} {pos : Pos}
theorem IxR.or {r r' : R2} (h : IxR X r) (h' : IxR X r') : IxR X (fun x y H Q => r x y H Q ∨ r' x y H Q) := by
  intro value slice pins s σ H x y v u Q I rx ry q hs
  rcases q with q | q
  · exact h value slice pins s σ H x y v u Q I rx ry q hs
  · exact h' value slice pins s σ H x y v u Q I rx ry q hs
theorem MtR.or {id : String} {r r' : V → List V → Hp → VK → Prop} (h : MtR X id r) (h' : MtR X id r') : MtR X id (fun x xs H Q => r x xs H Q ∨ r' x xs H Q) := by
  intro pins s σ H x xs v us Q I rx rs q
  rcases q with q | q
  · exact h pins s σ H x xs v us Q I rx rs q
  · exact h' pins s σ H x xs v us Q I rx rs q
/-- a[b] -/
theorem pe_ix {r : R2} (hr : IxR X r) (ha : PE X a ta) (hb : PE X b tb) (hs : PlainIx b) : PE X (.Subscript a b pos) (tOp r ta tb) := by
  intro pins s σ H Q I h
  exact Subscript_ (binT ha hb I h fun v u s2 x y H2 I2 rx ry q => hr a b pins s2 σ H2 x y v u Q I2 rx ry q (hs _ _))

def rIxL (K : PySem.W.Frag) : R2 := fun x y H Q => ∃ p xs i v, x = .ref p ∧ y = .int i ∧ SqL K H p xs ∧ atI xs i = some v ∧ Q v H
def rIxT (K : PySem.W.Frag) : R2 := fun x y H Q => ∃ p xs i v, x = .ref p ∧ y = .int i ∧ SqT K H p xs ∧ atI xs i = some v ∧ Q v H
def rIxS : R2 := fun x y H Q => ∃ z i c, x = .str z ∧ y = .int i ∧ z.length ≤ sizeLine ∧ atI z.cps.toList i = some c ∧ Q (.str ⟨#[c]⟩) H
theorem ix_list : IxR X (rIxL X.K) := by
  intro value slice pins s σ H x y v u Q I rx ry h hs
  obtain ⟨p, xs, i, z, rfl, rfl, hq, he, q⟩ := h
  cases rx
  obtain ⟨t, rfl⟩ := ry
  obtain ⟨its, r, pl, hz⟩ := I.list hq
  obtain ⟨j, h1, h2, h3, h4, h5⟩ := atI_get he
  obtain ⟨w, ew, rw'⟩ := r.get h2
  have hl := r.length
  have hn := line63
  have fin : EP X pins σ Q w s := ⟨z, H, I, rw', q⟩
  by_cases h0 : 0 ≤ i
  · have hj : i.toNat = j := by
      rw [seqIndex_of h0 h5] at h1
      exact Option.some.inj h1
    exact item_listR pl.isList h0 (by omega) (by rw [hj]; simpa using ew) fin hs
  · have hj : (i + (its.toArray.size : Int)).toNat = j := by
      rw [seqIndex_neg (by omega) h4] at h1
      rw [List.size_toArray, ← hl]
      exact Option.some.inj h1
    exact subscriptTail_builtinR (x := w) pl.isList.typeIs slot_list_getitem.lookup
      (wpAny_getItem_list_neg (Q := fun r s' => r = w ∧ EP X pins σ Q r s') pl.isList (by omega) (by rw [List.size_toArray] <;> omega) (by omega) (by rw [hj]; simpa using ew) ⟨rfl, fin⟩) hs
theorem ix_tup : IxR X (rIxT X.K) := by
  intro value slice pins s σ H x y v u Q I rx ry h hs
  obtain ⟨p, xs, i, z, rfl, rfl, hq, he, q⟩ := h
  cases rx
  obtain ⟨t, rfl⟩ := ry
  obtain ⟨its, r, pl, hz⟩ := I.tuple hq
  obtain ⟨j, h1, h2, h3, h4, h5⟩ := atI_get he
  obtain ⟨w, ew, rw'⟩ := r.get h2
  have hl := r.length
  have hn := line63
  have fin : EP X pins σ Q w s := ⟨z, H, I, rw', q⟩
  exact subscriptTail_builtinR (x := w) pl.typeIs slot_tuple_getitem.lookup
    (getItem_tuple (j := j) (Q := fun r s' => r = w ∧ EP X pins σ Q r s') pl (by omega) (by omega) (by rw [List.size_toArray, ← hl]; exact h1) (by simpa using ew) ⟨rfl, fin⟩) hs
theorem ix_str : IxR X rIxS := by
  intro value slice pins s σ H x y v u Q I rx ry h hs
  obtain ⟨z, i, c, rfl, rfl, hz, he, q⟩ := h
  obtain ⟨t, rfl⟩ := rx
  obtain ⟨t', rfl⟩ := ry
  obtain ⟨j, h1, h2, h3, h4, h5⟩ := atI_get he
  have hl : z.cps.toList.length = z.length := by simp [Str.length]
  rw [hl] at h1 h4 h5
  have hn := line63
  exact tail_any (typeIs_str s z t) slot_str_getitem.lookup (getItem_str (c := c) (by
    have e1 : decide (i < -(2 ^ 63 : Int)) = false := decide_eq_false (by omega)
    have e2 : decide (i ≥ 2 ^ 63) = false := decide_eq_false (by omega)
    rw [e1, e2, Bool.or_false]) (by rw [h1]; simpa using h2) ⟨.str ⟨#[c]⟩, H, I.tok _, ⟨_, rfl⟩, q⟩) hs

/-! ### xs[i] = v, any sign -/
/-- the list's object behind a store -/
theorem mapSeq_set (its : List Value) (n j : Nat) (u : Value) : Obj.mapSeq (·.setIfInBounds j u) { cls := .type "list", data := .seq its.toArray n } = { cls := .type "list", data := .seq (its.set j u).toArray n } := by
  simp [Obj.mapSeq]
theorem Inv.lst {pins : List (Addr × Obj)} {σ : St} {H : Hp} {s : Shared} {p : Addr} {xs : List V} (I : Inv X pins σ H s) (h : H p = some (.lst xs)) :
    ∃ (its : List Value) (n : Nat), Vals xs its ∧ s.heap.get? p = some { cls := .type "list", data := .seq its.toArray n } ∧ xs.length ≤ sizeLine := by
  obtain ⟨z, its, n, r, e⟩ := I.hok p _ h
  exact ⟨its, n, r, e, z⟩
/-- the list at p is written by an update of its object -/
theorem Inv.lstUpd {pins : List (Addr × Obj)} {σ : St} {H : Hp} {s : Shared} {p : Addr} {xs ys : List V} {its its' : List Value} {n n' : Nat} {f : Obj → Obj} (I : Inv X pins σ H s) (h : H p = some (.lst xs))
    (ho : s.heap.get? p = some { cls := .type "list", data := .seq its.toArray n }) (hf : f { cls := .type "list", data := .seq its.toArray n } = { cls := .type "list", data := .seq its'.toArray n' }) (r : Vals ys its') (hz : ys.length ≤ sizeLine) (t : Nat) :
    Inv X pins σ (upd H p (.lst ys)) { s with heap := s.heap.update p f, toks := t } := by
  have e : (s.heap.update p f).get? p = some { cls := .type "list", data := .seq its'.toArray n' } := by
    rw [Heap.get?_update_self f ho (by rw [hf] <;> rfl), hf]
  refine I.write (x := p) (e := p) (by rw [h]; trivial) (.inl rfl) (fun b u hb q => (Heap.get?_update_other _ _ (Ne.symm hb)).trans q) ⟨_, e⟩ ?_
  exact ⟨hz, its', n', r, e⟩
def rSetL : V → V → V → Hp → (Hp → Prop) → Prop := fun o i v H Q => ∃ p xs k j, o = .ref p ∧ i = .int k ∧ H p = some (.lst xs) ∧ ixN xs.length k = some j ∧ Q (upd H p (.lst (xs.set j v)))
theorem set_list : PSet X rSetL := by
  intro pins s σ H o i v ov iv u Q I ro ri rv h
  obtain ⟨p, xs, k, j, rfl, rfl, hp, hj, q⟩ := h
  cases ro
  obtain ⟨t, rfl⟩ := ri
  obtain ⟨its, n, r, ho, hz⟩ := I.lst hp
  obtain ⟨h1, h2, h3, h4⟩ := ixN_seq hj
  have hl := r.length
  have hn := line63
  have I' : Inv X pins σ (upd H p (.lst (xs.set j v))) { s with heap := s.heap.update p (Obj.mapSeq (·.setIfInBounds j u)) } :=
    I.lstUpd hp ho (mapSeq_set its n j u) (r.set rv j) (by rw [List.length_set]; exact hz) s.toks
  by_cases h0 : 0 ≤ k
  · have hk : k.toNat = j := by
      rw [seqIndex_of h0 h4] at h1
      exact Option.some.inj h1
    exact PySem.W.ki_setAt ho h0 (by omega) (by rw [List.size_toArray, ← hl]; exact h4) (by rw [hk]; exact ⟨_, I', q⟩)
  · have hk : (k + (its.toArray.size : Int)).toNat = j := by
      rw [seqIndex_neg (by omega) h3] at h1
      rw [List.size_toArray, ← hl]
      exact Option.some.inj h1
    exact PySem.W.ki_setBack ho (by omega) (by rw [List.size_toArray, ← hl]; exact h3) (by omega) (by rw [hk]; exact ⟨_, I', q⟩)

/-! ### slices -/
theorem slice_bounds (lo hi : Option Int) (n : Nat) : (sliceBounds lo hi none n).1 = ((HT.sIx n 0 lo : Nat) : Int) ∧ (sliceBounds lo hi none n).2.1 = ((HT.sIx n n hi : Nat) : Int) ∧ (sliceBounds lo hi none n).2.2 = 1 := by
  refine ⟨?_, ?_, rfl⟩
  · cases lo with
    | none => simp [sliceBounds, HT.sIx]
    | some i =>
      simp only [sliceBounds, HT.sIx, Option.getD_none, show (1 : Int) > 0 by decide, if_true]
      by_cases h : i < 0
      · simp only [h, if_true] <;> omega
      · simp only [h, if_false] <;> omega
  · cases hi with
    | none => simp [sliceBounds, HT.sIx]
    | some i =>
      simp only [sliceBounds, HT.sIx, Option.getD_none, show (1 : Int) > 0 by decide, if_true]
      by_cases h : i < 0
      · simp only [h, if_true] <;> omega
      · simp only [h, if_false] <;> omega
theorem slicePick_cut (its : List Value) (lo hi : Option Int) : slicePick its.toArray lo hi none = ((its.drop (HT.sIx its.length 0 lo)).take (HT.sIx its.length its.length hi - HT.sIx its.length 0 lo)).toArray := by
  obtain ⟨h1, h2, h3⟩ := slice_bounds lo hi its.toArray.size
  unfold slicePick
  rw [h1, h2, h3]
  simp only [sliceRange_one, pick_run, List.size_toArray] <;> rfl
/-- xs[lo:hi] of a list: a new list -/
def rSlL (K : PySem.W.Frag) : V → Option Int → Option Int → Hp → VK → Prop := fun x lo hi H Q => ∃ a xs, x = .ref a ∧ SqL K H a xs ∧ ∀ p, H p = none → Q (.ref p) (upd H p (.lst (cutV xs lo hi)))
theorem sl_list : SlR X (rSlL X.K) := by
  intro pins s σ H x v vl vu lo hi sl Q I rx hs pl pu h
  obtain ⟨a, xs, rfl, hx, q⟩ := h
  cases rx
  obtain ⟨its, r, ht, hz⟩ := I.list hx
  have hlen := r.length
  refine ⟨"list", _, slot_list_getitem.lookup, ht.isList.typeIs, ?_⟩
  refine wpAny_getItem_list_slice ht.isList hs pl pu .none (by simp) ?_ (by rw [List.size_toArray] <;> omega)
  rw [slicePick_cut, ← hlen]
  refine ⟨.ref s.heap.objs.size, _, I.laid (t' := s.toks) (o := .lst (cutV xs lo hi)) (fun b ob q => Heap.get?_push_of_some _ q) (Nat.le_refl _) ?_, rfl, q _ (I.hok.fresh (Nat.le_refl _))⟩
  exact ⟨Nat.le_trans (cutV_length xs lo hi) hz, _, 0, (r.drop (HT.sIx xs.length 0 lo)).take (HT.sIx xs.length xs.length hi - HT.sIx xs.length 0 lo), Heap.get?_push_size _ rfl⟩

/-! ### in, not in: flat items -/
def flatV : V → Bool
  | .non => true
  | .bl _ => true
  | .int _ => true
  | .str _ => true
  | _ => false
/-- == of flat values -/
def eqV : V → V → Bool
  | .non, .non => true
  | .bl a, .bl b => a == b
  | .bl a, .int b => (if a then 1 else 0) == b
  | .int a, .bl b => a == (if b then 1 else 0)
  | .int a, .int b => a == b
  | .str a, .str b => a == b
  | _, _ => false
theorem eqAt_V {A : Around} {s : Shared} {y x : V} {u v : Value} (ry : RelV y u) (rx : RelV x v) (fy : flatV y = true) (fx : flatV x = true) : SeqAt.EqAt A s u v (eqV y x) := by
  cases y with
  | non =>
    cases ry
    cases x with
    | non => cases rx; exact SeqAt.EqAt.same _
    | bl b => cases rx; exact SeqAt.EqAt.none_bool b
    | int b => obtain ⟨t, rfl⟩ := rx; exact SeqAt.EqAt.none_int b t
    | str b => obtain ⟨t, rfl⟩ := rx; exact SeqAt.EqAt.none_str b t
    | _ => exact absurd (show false = true from fx) Bool.false_ne_true
  | bl a =>
    cases ry
    cases x with
    | non => cases rx; exact SeqAt.EqAt.bool_none a
    | bl b => cases rx; exact SeqAt.EqAt.bool_bool a b
    | int b => obtain ⟨t, rfl⟩ := rx; exact SeqAt.EqAt.bool_int a b t
    | str b => obtain ⟨t, rfl⟩ := rx; exact SeqAt.EqAt.bool_str a b t
    | _ => exact absurd (show false = true from fx) Bool.false_ne_true
  | int a =>
    obtain ⟨t', rfl⟩ := ry
    cases x with
    | non => cases rx; exact SeqAt.EqAt.int_none a t'
    | bl b => cases rx; exact SeqAt.EqAt.int_bool a t' b
    | int b => obtain ⟨t, rfl⟩ := rx; exact SeqAt.EqAt.int_int a t' b t
    | str b => obtain ⟨t, rfl⟩ := rx; exact SeqAt.EqAt.int_str a t' b t
    | _ => exact absurd (show false = true from fx) Bool.false_ne_true
  | str a =>
    obtain ⟨t', rfl⟩ := ry
    cases x with
    | non => cases rx; exact SeqAt.EqAt.str_none a t'
    | bl b => cases rx; exact SeqAt.EqAt.str_bool a t' b
    | int b => obtain ⟨t, rfl⟩ := rx; exact SeqAt.EqAt.str_int a t' b t
    | str b => obtain ⟨t, rfl⟩ := rx; exact SeqAt.EqAt.str_str a t' b t
    | _ => exact absurd (show false = true from fx) Bool.false_ne_true
  | _ => exact absurd (show false = true from fy) Bool.false_ne_true
/-- the items' answers, read off the values (a value's own answer does not lean on its token) -/
def eqU (x : V) (u : Value) : Bool := match u with
  | .none => eqV .non x
  | .bool b => eqV (.bl b) x
  | .int i _ => eqV (.int i) x
  | .str z _ => eqV (.str z) x
  | _ => false
theorem eqU_of {x y : V} {u : Value} (r : RelV y u) (f : flatV y = true) : eqU x u = eqV y x := by
  cases y with
  | non => cases r; rfl
  | bl b => cases r; rfl
  | int i => obtain ⟨t, rfl⟩ := r; rfl
  | str z => obtain ⟨t, rfl⟩ := r; rfl
  | _ => exact absurd (show false = true from f) Bool.false_ne_true
theorem any_eqU {x : V} : ∀ {xs : List V} {us : List Value}, Vals xs us → xs.all flatV = true → us.any (eqU x) = xs.any fun y => eqV y x
  | _, _, .nil, _ => rfl
  | y :: xs, u :: us, .cons r t, f => by
    rw [List.all_cons, Bool.and_eq_true] at f
    rw [List.any_cons, List.any_cons, eqU_of r f.1, any_eqU t f.2]
theorem mem_eqAt {A : Around} {s : Shared} {x : V} {v : Value} (rx : RelV x v) (fx : flatV x = true) : ∀ {xs : List V} {us : List Value}, Vals xs us → xs.all flatV = true → ∀ u ∈ us, SeqAt.EqAt A s u v (eqU x u)
  | _, _, .nil, _ => fun u hu => by cases hu
  | y :: xs, u :: us, .cons r t, f => fun u' hu => by
    rw [List.all_cons, Bool.and_eq_true] at f
    rcases List.mem_cons.mp hu with rfl | hu
    · rw [eqU_of r f.1]; exact eqAt_V r rx f.1 fx
    · exact mem_eqAt rx fx t f.2 u' hu
def inV (x : V) (xs : List V) : Bool := xs.any fun y => eqV y x
/-- x in a list or tuple of flat items -/
def rIn (K : PySem.W.Frag) (neg : Bool) : R2 := fun x y H Q => ∃ p xs, y = .ref p ∧ (SqL K H p xs ∨ SqT K H p xs) ∧ flatV x = true ∧ xs.all flatV = true ∧ Q (.bl (if neg then !inV x xs else inV x xs)) H
theorem op_notIn_seq : OpR X (compareOp .NotIn) (rIn X.K true) := by
  intro pins s σ H x y v u Q I rx ry h
  obtain ⟨p, xs, rfl, hq, fx, fs, q⟩ := h
  cases ry
  rcases hq with hq | hq
  · obtain ⟨its, r, pl, hz⟩ := I.list hq
    refine SeqAt.notIn_listAt (eqU x) pl.isList (fun w hw => mem_eqAt rx fx r fs w (by simpa using hw)) ⟨.bl _, H, I, rfl, ?_⟩
    rw [show its.toArray.any (eqU x) = its.any (eqU x) by simp, any_eqU r fs]
    exact q
  · obtain ⟨its, r, pl, hz⟩ := I.tuple hq
    refine SeqAt.notIn_tupleAt (eqU x) pl (fun w hw => mem_eqAt rx fx r fs w (by simpa using hw)) ⟨.bl _, H, I, rfl, ?_⟩
    rw [show its.toArray.any (eqU x) = its.any (eqU x) by simp, any_eqU r fs]
    exact q

/-! ### len, list(x), tuple(x) of any list or tuple that is read -/
theorem call_len_seq : CallR X (.builtin "len") (fun xs H Q => ∃ p ys, xs = [.ref p] ∧ (SqL X.K H p ys ∨ SqT X.K H p ys) ∧ Q (.int ys.length) H) := by
  intro pins s σ H xs us Q I r h
  obtain ⟨p, ys, rfl, hq, q⟩ := h
  obtain ⟨u, rfl, rx⟩ := vals1 r
  cases rx
  have hn := line63
  rcases hq with hq | hq
  · obtain ⟨its, r', pl, hz⟩ := I.list hq
    have hlen := r'.length
    exact Calls.call_len_list pl.isList (by simp only [List.size_toArray] <;> omega) ⟨.int ys.length, H, I.tok _, ⟨s.toks + 1, by rw [List.size_toArray, hlen]⟩, q⟩
  · obtain ⟨its, r', pl, hz⟩ := I.tuple hq
    have hlen := r'.length
    exact len_tuple pl (by simp only [List.size_toArray] <;> omega) ⟨.int ys.length, H, I.tok _, ⟨s.toks + 1, by rw [List.size_toArray, hlen]⟩, q⟩
theorem call_len_str : CallR X (.builtin "len") (fun xs H Q => ∃ z, xs = [.str z] ∧ z.length ≤ sizeLine ∧ Q (.int z.length) H) := by
  intro pins s σ H xs us Q I r h
  obtain ⟨z, rfl, hz, q⟩ := h
  obtain ⟨u, rfl, t, rfl⟩ := vals1 r
  have hn := line63
  exact len_str (by omega) ⟨.int z.length, H, I.tok _, ⟨_, rfl⟩, q⟩
theorem CallR.or {f : Value} {r r' : List V → Hp → VK → Prop} (h : CallR X f r) (h' : CallR X f r') : CallR X f (fun xs H Q => r xs H Q ∨ r' xs H Q) := by
  intro pins s σ H xs us Q I rs q
  rcases q with q | q
  · exact h pins s σ H xs us Q I rs q
  · exact h' pins s σ H xs us Q I rs q
theorem call_list_of : CallR X (.type "list") (fun xs H Q => ∃ p ys, xs = [.ref p] ∧ (SqL X.K H p ys ∨ SqT X.K H p ys) ∧ ∀ l, H l = none → Q (.ref l) (upd H l (.lst ys))) := by
  intro pins s σ H xs us Q I r h
  obtain ⟨p, ys, rfl, hq, q⟩ := h
  obtain ⟨u, rfl, rx⟩ := vals1 r
  cases rx
  have fin : ∀ (its : List Value), Vals ys its → ys.length ≤ sizeLine → ∀ (h' : Heap) (c' : Nat), (∀ b o', s.heap.get? b = some o' → h'.get? b = some o') →
      h'.get? s.heap.objs.size = some { cls := .type "list", dict := none, data := .seq its.toArray c', slots := #[] } → EP X pins σ Q (.ref s.heap.objs.size) { s with heap := h' } := fun its r' hz h' c' kp e =>
    ⟨.ref s.heap.objs.size, _, I.laid (t' := s.toks) kp (Nat.le_refl _) (show ObjOk X.prog X.w _ h' _ (.lst ys) from ⟨hz, its, c', r', e⟩), rfl, q _ (I.hok.fresh (Nat.le_refl _))⟩
  rcases hq with hq | hq
  · obtain ⟨its, r', pl, hz⟩ := I.list hq
    have hlen := r'.length
    obtain ⟨o, ho, hc, n, hd⟩ := pl.isList
    exact call_list_seq p (.inl rfl) ho hc hd (fun h' c' kp e => fin its r' hz h' c' kp e) (by simp only [List.size_toArray] <;> omega)
  · obtain ⟨its, r', pl, hz⟩ := I.tuple hq
    have hlen := r'.length
    obtain ⟨o, ho, hc, n, hd⟩ := pl
    exact call_list_seq p (.inr rfl) ho hc hd (fun h' c' kp e => fin its r' hz h' c' kp e) (by simp only [List.size_toArray] <;> omega)
theorem call_tuple_of : CallR X (.type "tuple") (fun xs H Q => ∃ p ys, xs = [.ref p] ∧ ((SqL X.K H p ys ∧ ∀ l, H l = none → Q (.ref l) (upd H l (.tup ys))) ∨ (SqT X.K H p ys ∧ Q (.ref p) H))) := by
  intro pins s σ H xs us Q I r h
  obtain ⟨p, ys, rfl, h⟩ := h
  obtain ⟨u, rfl, rx⟩ := vals1 r
  cases rx
  rcases h with ⟨hq, q⟩ | ⟨hq, q⟩
  · obtain ⟨its, r', pl, hz⟩ := I.list hq
    have hlen := r'.length
    refine call_tuple_list pl.isList (fun h' kp => ?_) (by simp only [List.size_toArray] <;> omega)
    have I1 : Inv X pins σ H { s with heap := h' } := I.kept (t' := s.toks) kp
    have I2 : Inv X pins σ (upd H h'.objs.size (.tup ys)) { s with heap := h'.push { cls := .type "tuple", data := .seq its.toArray } } :=
      I1.laid (t' := s.toks) (fun b o e => Heap.get?_push_of_some _ e) (Nat.le_refl _) (show ObjOk X.prog X.w _ _ _ (.tup ys) from ⟨hz, its, r', IsTup.new _ _⟩)
    exact ⟨.ref h'.objs.size, _, I2, rfl, q _ (I1.hok.fresh (Nat.le_refl _))⟩
  · obtain ⟨its, r', pl, hz⟩ := I.tuple hq
    exact call_tuple_same pl ⟨.ref p, H, I, rfl, q⟩

/-! ### the call of a builtin's method: o.m(..) -/
/-- the value is of that builtin type -/
def tyV (K : PySem.W.Frag) (T : String) (x : V) (H : Hp) : Prop := match x with
  | .str _ => T = "str"
  | .int _ => T = "int"
  | .ref p => (T = "list" ∧ ∃ xs, SqL K H p xs) ∨ (T = "tuple" ∧ ∃ o, K.lookup p = some o ∧ o.cls = .type "tuple" ∧ o.dict = none) ∨
      (T = "dict" ∧ ((∃ kvs, H p = some (.dK kvs)) ∨ ∃ kvs, H p = some (.dT kvs))) ∨ (T = "set" ∧ ∃ S n, H p = some (.set S n))
  | _ => False
theorem tyV_is {pins : List (Addr × Obj)} {σ : St} {H : Hp} {s : Shared} {T : String} {x : V} {v : Value} (I : Inv X pins σ H s) (r : RelV x v) (ty : tyV X.K T x H) :
    s.TypeIs v T ∧ ∀ a, v = .ref a → ∃ ob, s.heap.get? a = some ob ∧ ob.dict = none := by
  cases x with
  | str z =>
    obtain ⟨t, rfl⟩ := r
    cases (show T = "str" from ty)
    exact ⟨typeIs_str s z t, fun _ e => nomatch e⟩
  | int i =>
    obtain ⟨t, rfl⟩ := r
    cases (show T = "int" from ty)
    exact ⟨typeIs_int s i t, fun _ e => nomatch e⟩
  | ref p =>
    cases r
    rcases ty with ⟨rfl, xs, hq⟩ | ⟨rfl, o, hk, hc, hd⟩ | ⟨rfl, hk⟩ | ⟨rfl, S, n, hk⟩
    · obtain ⟨its, _, pl, _⟩ := I.list hq
      refine ⟨pl.isList.typeIs, fun a e => ?_⟩
      cases e
      obtain ⟨o, n, e, c, hd, _⟩ := pl
      exact ⟨o, e, hd⟩
    · refine ⟨⟨o, I.kIn p o hk, hc⟩, fun a e => ?_⟩
      cases e
      exact ⟨o, I.kIn _ o hk, hd⟩
    · have z : ∃ o, s.heap.get? p = some o ∧ o.ExactDict := by
        rcases hk with ⟨kvs, hk⟩ | ⟨kvs, hk⟩
        · obtain ⟨_, _, _, _, o, _, _, e, ex, _⟩ := I.hok p _ hk
          exact ⟨o, e, ex⟩
        · obtain ⟨_, _, _, _, o, _, _, e, ex, _⟩ := I.hok p _ hk
          exact ⟨o, e, ex⟩
      obtain ⟨o, e, ex⟩ := z
      refine ⟨⟨o, e, ex.1⟩, fun a e2 => ?_⟩
      cases e2
      exact ⟨o, e, ex.2.1⟩
    · obtain ⟨o, _, _, _, e, ex, _⟩ := I.hok p _ hk
      refine ⟨⟨o, e, ex.1⟩, fun a e2 => ?_⟩
      cases e2
      exact ⟨o, e, ex.2.1⟩
  | _ => exact False.elim ty
def tBM0 (K : PySem.W.Frag) (T : String) (r : V → List V → Hp → VK → Prop) (to : TE) : TE := fun σ H Q => to σ H fun x H1 => tyV K T x H1 ∧ r x [] H1 Q
def tBM (K : PySem.W.Frag) (T : String) (r : V → List V → Hp → VK → Prop) (to : TE) (t : TA) : TE := fun σ H Q => to σ H fun x H1 => tyV K T x H1 ∧ t σ H1 fun xs H2 => r x xs H2 Q
variable {o e : Expr} {es : List Expr} {to : TE} {t : TA} {name : Str} {apos cpos : Pos} {T id : String} {r : V → List V → Hp → VK → Prop}
theorem pe_bm0 (pa : PlainAttrs T) (slot : Slot T name id) (hty : typeOf (.builtin id) = pure (.type "method_descriptor")) (hm : MtR X id r) (ho : PE X o to)
    (hbase : attributeBase o name X.env (eval o X.env) = eval o X.env := by rfl) (hline : (apos.endLine == cpos.line) = true := by rfl) : PE X (.Call (.Attribute o name apos) [] [] cpos) (tBM0 X.K T r to) := by
  intro pins s σ H Q I h
  refine wpAny_Call_method0_late hbase hline (thn (ho pins s σ H _ I h) fun v s1 ⟨x, H1, I1, r1, ty, q1⟩ => ?_)
  obtain ⟨h1, h2⟩ := tyV_is I1 r1 ty
  exact ⟨T, id, pa, slot, hty, h1, h2, Calls.callWith_builtin rfl (PySem.evalArgs_none (hm pins s1 σ H1 x [] v [] Q I1 r1 .nil q1))⟩
theorem pe_bm (pa : PlainAttrs T) (slot : Slot T name id) (hty : typeOf (.builtin id) = pure (.type "method_descriptor")) (hm : MtR X id r) (ho : PE X o to) (ha : PA X (e :: es) t)
    (hbase : attributeBase o name X.env (eval o X.env) = eval o X.env := by rfl)
    (hfew : ((backTo cpos (starEach (e :: es) X.env)).all (fun x => !x.1) && (backToKw cpos (keywordEach [] X.env)).all (fun x => x.1.isSome)
      && decide ((e :: es).length + ([] : List Keyword).length + (if ([] : List Keyword).isEmpty then 0 else 1) < 30)) = true := by rfl)
    (hline : (apos.endLine == cpos.line) = true := by rfl) (hs : starEach (e :: es) X.env = (false, eval e X.env) :: starEach es X.env := by rfl) (hplain : (backTo cpos (starEach es X.env)).any (·.1) = false := by rfl) :
    PE X (.Call (.Attribute o name apos) (e :: es) [] cpos) (tBM X.K T r to t) := by
  intro pins s σ H Q I h
  refine wpAny_Call_method_late hbase hfew hline rfl (thn (ho pins s σ H _ I h) fun v s1 ⟨x, H1, I1, r1, ty, q1⟩ => ?_)
  obtain ⟨h1, h2⟩ := tyV_is I1 r1 ty
  refine ⟨T, id, pa, slot, hty, h1, h2, ?_⟩
  have hA := ha cpos pins s1 σ H1 _ I1 q1
  rw [hs] at hA ⊢
  refine Calls.callWith_builtin (by show (false || (backTo cpos (starEach es X.env)).any (·.1)) = false; rw [hplain] <;> rfl) (Calls.evalArgs_plain ?_)
  exact thn hA fun us s2 ⟨vs, H2, I2, r2, q2⟩ => hm pins s2 σ H2 x vs v us Q I2 r1 r2 q2
/- xs.append(e), list.index on a module's tuple .. are MtR facts of 06m -/
end
end L2

namespace L2
open PySem PySem.Spec PyProof.Rows

def MtM (X : Cx) (id : String) (r : V → List V → Hp → VK → Prop) : Prop :=
  ∀ (pins : List (Addr × Obj)) (s : Shared) (σ : St) (H : Hp) (x : V) (xs : List V) (v : Value) (us : List Value) (Q : VK), Inv X pins σ H s → RelV x v → Vals xs us → r x xs H Q →
    wpAny (model X.prog X.w) X.A (call (.builtin id) (v :: us)) (EP X pins σ Q) X.xe s

/-! ### lists of values -/
theorem Vals.one : ∀ {x : V} {us : List Value}, Vals [x] us → ∃ u, us = [u] ∧ RelV x u
  | _, _, .cons r .nil => ⟨_, rfl, r⟩
theorem Vals.two : ∀ {x y : V} {us : List Value}, Vals [x, y] us → ∃ u v, us = [u, v] ∧ RelV x u ∧ RelV y v
  | _, _, _, .cons r (.cons q .nil) => ⟨_, _, rfl, r, q⟩
theorem Vals.zero : ∀ {us : List Value}, Vals [] us → us = []
  | _, .nil => rfl
theorem Vals.dropLast {xs : List V} {us : List Value} (h : Vals xs us) : Vals xs.dropLast us.dropLast := by
  induction h with
  | nil => exact .nil
  | cons r t ih =>
    cases t with
    | nil => exact .nil
    | cons q t' => exact .cons r ih
theorem Vals.eraseIdx : ∀ {xs : List V} {us : List Value} (i : Nat), Vals xs us → Vals (xs.eraseIdx i) (us.eraseIdx i)
  | _, _, _, .nil => .nil
  | _, _, 0, .cons _ t => t
  | _, _, i + 1, .cons r t => .cons r (Vals.eraseIdx i t)
theorem Vals.reverse {xs : List V} {us : List Value} (h : Vals xs us) : Vals xs.reverse us.reverse := by
  induction h with
  | nil => exact .nil
  | cons r t ih => rw [List.reverse_cons, List.reverse_cons]; exact Vals.append ih (.cons r .nil)
theorem Vals.rep {xs : List V} {us : List Value} (h : Vals xs us) : ∀ k : Nat, Vals (List.replicate k xs).flatten (List.replicate k us).flatten
  | 0 => .nil
  | k + 1 => by
    rw [List.replicate_succ, List.replicate_succ, List.flatten_cons, List.flatten_cons]
    exact Vals.append h (Vals.rep h k)
theorem erase_last {α : Type} (l : List α) : l.eraseIdx (l.length - 1) = l.dropLast := by
  induction l with
  | nil => rfl
  | cons a r ih =>
    cases r with
    | nil => rfl
    | cons b r =>
      have e : (a :: b :: r).length - 1 = ((b :: r).length - 1) + 1 := by
        have h1 : (a :: b :: r).length = r.length + 2 := rfl
        have h2 : (b :: r).length = r.length + 1 := rfl
        omega
      rw [e, List.eraseIdx_cons_succ, ih]
      all_goals rfl
theorem len_erase {α : Type} : ∀ (l : List α) (i : Nat), (l.eraseIdx i).length ≤ l.length
  | [], _ => Nat.le_refl _
  | _ :: _, 0 => Nat.le_succ _
  | _ :: r, i + 1 => Nat.succ_le_succ (len_erase r i)
theorem foldl_rep (its : List Value) : ∀ (k : Nat) (acc : List Value),
    List.foldl (fun x1 x2 => x1 ++ x2) acc.toArray (List.replicate k its.toArray) = (acc ++ (List.replicate k its).flatten).toArray
  | 0, acc => by simp
  | k + 1, acc => by
    have e : acc.toArray ++ its.toArray = (acc ++ its).toArray := by simp
    have e2 : (acc ++ its) ++ (List.replicate k its).flatten = acc ++ (List.replicate (k + 1) its).flatten := by
      rw [List.replicate_succ, List.flatten_cons, List.append_assoc]
    rw [← e2, ← foldl_rep its k (acc ++ its), ← e, List.replicate_succ, List.foldl_cons]

section
variable {X : Cx} {pins : List (Addr × Obj)} {σ : St} {H : Hp} {s : Shared} {l b : Addr} {xs ys zs : List V}

/-! ### the two steps: a tracked list is rewritten, a new list is laid -/
theorem Inv.lset {its its' : List Value} {n : Nat} {f : Array Value → Array Value} {t' : Nat} (I : Inv X pins σ H s) (hH : H l = some (.lst xs))
    (e : s.heap.get? l = some { cls := .type "list", data := .seq its.toArray n }) (hf : f its.toArray = its'.toArray) (hv : Vals ys its') (hz : ys.length ≤ sizeLine) :
    Inv X pins σ (upd H l (.lst ys)) { s with heap := s.heap.update l (Obj.mapSeq f), toks := t' } := by
  have q := PySem.IsL.update e f
  rw [hf] at q
  refine I.write (x := l) (e := l) (by rw [hH]; exact trivial) (.inl rfl) (fun b' u hb hu => (Heap.get?_update_other s.heap (Obj.mapSeq f) (Ne.symm hb)).trans hu) ⟨_, q⟩ ?_
  exact ⟨hz, its', _, hv, q⟩
theorem Inv.lnew {its : List Value} {t' : Nat} (I : Inv X pins σ H s) (hv : Vals ys its) (hz : ys.length ≤ sizeLine) :
    Inv X pins σ (upd H s.heap.objs.size (.lst ys)) { s with heap := s.heap.push { cls := .type "list", data := .seq its.toArray }, toks := t' } :=
  I.laid (fun _ _ q => Heap.get?_push_of_some _ q) (Nat.le_refl _) ⟨hz, its, 0, hv, Heap.get?_push_size _ rfl⟩
theorem Inv.fresh (I : Inv X pins σ H s) : H s.heap.objs.size = none := I.hok.fresh (Nat.le_refl _)
theorem Inv.lstM (I : Inv X pins σ H s) (hH : H l = some (.lst xs)) : xs.length ≤ sizeLine ∧ ∃ (its : List Value) (n : Nat), Vals xs its ∧ xs.length = its.length ∧ s.heap.get? l = some { cls := .type "list", data := .seq its.toArray n } := by
  obtain ⟨z, its, n, r, e⟩ := I.hok l _ hH
  exact ⟨z, its, n, r, r.length, e⟩

theorem notLongL {n : Nat} (h : n ≤ sizeLine) : Builtin.List.listTooLong n = false := by
  unfold Builtin.List.listTooLong
  exact decide_eq_false (by omega)
end

section
variable {X : Cx}

/-! ### methods -/
def rAppend : V → List V → Hp → VK → Prop := fun x vs H Q => ∃ l xs y, x = .ref l ∧ vs = [y] ∧ H l = some (.lst xs) ∧ xs.length < sizeLine ∧ Q .non (upd H l (.lst (xs ++ [y])))
theorem mt_append : MtM X "list.append" rAppend := by
  intro pins s σ H x vs v us Q I rx rv h
  obtain ⟨l, xs, y, rfl, rfl, hH, hz, q⟩ := h
  cases rx
  obtain ⟨u, rfl, ru⟩ := rv.one
  obtain ⟨z, its, n, r, hl, e⟩ := I.lstM hH
  refine call_meets F.slot_list_append ⟨_, e, rfl⟩ F.entry_list_append (F.args_list_append_2 _ _) (PySem.list_append l its.toArray n u (by rw [List.size_toArray]; omega)) ⟨e, ?_⟩
  refine ⟨.non, _, I.lset (its' := its ++ [u]) hH e (by simp) (r.append (.cons ru .nil)) ?_, rfl, q⟩
  rw [List.length_append, List.length_singleton]
  omega

def rExtend : V → List V → Hp → VK → Prop := fun x vs H Q => ∃ l b xs zs, x = .ref l ∧ vs = [.ref b] ∧ H l = some (.lst xs) ∧ H b = some (.lst zs) ∧ xs.length + zs.length ≤ sizeLine ∧ Q .non (upd H l (.lst (xs ++ zs)))
theorem mt_extend : MtM X "list.extend" rExtend := by
  intro pins s σ H x vs v us Q I rx rv h
  obtain ⟨l, b, xs, zs, rfl, rfl, hH, hB, hz, q⟩ := h
  cases rx
  obtain ⟨u, rfl, ru⟩ := rv.one
  cases ru
  obtain ⟨z, its, n, r, hl, e⟩ := I.lstM hH
  obtain ⟨z2, its2, n2, r2, hl2, e2⟩ := I.lstM hB
  have hsz : its.toArray.size + its2.toArray.size ≤ sizeLine := by rw [List.size_toArray, List.size_toArray]; omega
  have hlong : ¬ (!its.toArray.isEmpty && Builtin.List.listTooLong (its.toArray.size + its2.toArray.size)) = true := by
    rw [notLongL hsz, Bool.and_false]
    exact Bool.false_ne_true
  refine call_meets F.slot_list_extend ⟨_, e, rfl⟩ F.entry_list_extend (F.args_list_extend_2 _ _)
    (AutoSeq1.list_extend_list_list_0 l its.toArray n b its2.toArray n2 hlong (by rw [List.size_toArray]; omega) (by omega)) ⟨e, e2, ?_⟩
  refine ⟨.non, _, I.lset (its' := its ++ its2) hH e (by simp) (r.append r2) ?_, rfl, q⟩
  rw [List.length_append]
  omega

def rPop : V → List V → Hp → VK → Prop := fun x vs H Q => ∃ l xs y, x = .ref l ∧ vs = [] ∧ H l = some (.lst xs) ∧ xs[xs.length - 1]? = some y ∧ Q y (upd H l (.lst xs.dropLast))
theorem mt_pop : MtM X "list.pop" rPop := by
  intro pins s σ H x vs v us Q I rx rv h
  obtain ⟨l, xs, y, rfl, rfl, hH, hy, q⟩ := h
  cases rx
  have hus := rv.zero
  subst hus
  obtain ⟨z, its, n, r, hl, e⟩ := I.lstM hH
  obtain ⟨u, hu, ru⟩ := r.get hy
  have hy' : its.toArray[its.toArray.size - 1]? = some u := by
    show its.toArray[its.length - 1]? = some u
    rw [← Array.getElem?_toList, ← hl]
    exact hu
  refine call_meets F.slot_list_pop ⟨_, e, rfl⟩ F.entry_list_pop (F.args_list_pop_1 _) (MeetsSeq.list_pop_last l its.toArray n u hy' (by rw [List.size_toArray]; omega)) ⟨e, ?_⟩
  refine ⟨y, _, I.lset (its' := its.dropLast) hH e ?_ r.dropLast ?_, ru, q⟩
  · show its.toArray.eraseIdxIfInBounds (its.toArray.size - 1) = its.dropLast.toArray
    rw [List.size_toArray, List.eraseIdxIfInBounds_toArray, erase_last]
  · rw [List.length_dropLast]
    omega

def rPopAt : V → List V → Hp → VK → Prop := fun x vs H Q => ∃ l xs i k y, x = .ref l ∧ vs = [.int i] ∧ H l = some (.lst xs) ∧ -(2 ^ 63) ≤ i ∧ i < 2 ^ 63 ∧ seqIndex? i xs.length = some k ∧ xs[k]? = some y ∧ Q y (upd H l (.lst (xs.eraseIdx k)))
theorem mt_popAt : MtM X "list.pop" rPopAt := by
  intro pins s σ H x vs v us Q I rx rv h
  obtain ⟨l, xs, i, k, y, rfl, rfl, hH, h1, h2, hk, hy, q⟩ := h
  cases rx
  obtain ⟨u, rfl, ru⟩ := rv.one
  obtain ⟨t, rfl⟩ := ru
  obtain ⟨z, its, n, r, hl, e⟩ := I.lstM hH
  obtain ⟨w, hw, rw'⟩ := r.get hy
  refine call_meets F.slot_list_pop ⟨_, e, rfl⟩ F.entry_list_pop (F.args_list_pop_2 _ _)
    (MeetsSeq.list_pop_at l its.toArray n i t k w (fitsIndex_both h1 h2) (by rw [List.size_toArray, ← hl]; exact hk) (by rw [← Array.getElem?_toList]; exact hw) (by rw [List.size_toArray]; omega)) ⟨e, ?_⟩
  refine ⟨y, _, I.lset (its' := its.eraseIdx k) hH e ?_ (r.eraseIdx k) ?_, rw', q⟩
  · show its.toArray.eraseIdxIfInBounds k = (its.eraseIdx k).toArray
    rw [List.eraseIdxIfInBounds_toArray]
  · have := len_erase xs k
    omega

def rReverse : V → List V → Hp → VK → Prop := fun x vs H Q => ∃ l xs, x = .ref l ∧ vs = [] ∧ H l = some (.lst xs) ∧ Q .non (upd H l (.lst xs.reverse))
theorem mt_reverse : MtM X "list.reverse" rReverse := by
  intro pins s σ H x vs v us Q I rx rv h
  obtain ⟨l, xs, rfl, rfl, hH, q⟩ := h
  cases rx
  have hus := rv.zero
  subst hus
  obtain ⟨z, its, n, r, hl, e⟩ := I.lstM hH
  refine call_meets F.slot_list_reverse ⟨_, e, rfl⟩ F.entry_list_reverse (F.args_list_reverse_1 _) (AutoSeq1.list_reverse_list_0 l its.toArray n (by rw [List.size_toArray]; omega)) ⟨e, ?_⟩
  refine ⟨.non, _, I.lset (its' := its.reverse) hH e (by simp) r.reverse ?_, rfl, q⟩
  rw [List.length_reverse]
  omega


/-! ### list + list, list += list, list * int -/
def rCat : R2 := fun x y H Q => ∃ l b xs zs, x = .ref l ∧ y = .ref b ∧ H l = some (.lst xs) ∧ H b = some (.lst zs) ∧ xs.length + zs.length ≤ sizeLine ∧ ∀ p, H p = none → Q (.ref p) (upd H p (.lst (xs ++ zs)))
theorem op_cat : OpR X (binaryOp .Add) rCat := by
  intro pins s σ H x y v u Q I rx ry h
  obtain ⟨l, b, xs, zs, rfl, rfl, hH, hB, hz, q⟩ := h
  cases rx
  cases ry
  obtain ⟨z, its, n, r, hl, e⟩ := I.lstM hH
  obtain ⟨z2, its2, n2, r2, hl2, e2⟩ := I.lstM hB
  refine PySem.P.add_list e e2 ?_ (by rw [List.size_toArray, List.size_toArray]; omega)
  have ea : its.toArray ++ its2.toArray = (its ++ its2).toArray := by simp
  rw [ea]
  exact ⟨.ref _, _, I.lnew (t' := s.toks) (r.append r2) (by rw [List.length_append]; omega), rfl, q _ I.fresh⟩
/-- a list times an int (a negative one is nothing) -/
def rRep : R2 := fun x y H Q => ∃ l k xs, x = .ref l ∧ y = .int k ∧ H l = some (.lst xs) ∧ -(2 ^ 63) ≤ k ∧ k < 2 ^ 63 ∧ xs.length * k.toNat ≤ sizeLine ∧
  ∀ p, H p = none → Q (.ref p) (upd H p (.lst (List.replicate k.toNat xs).flatten))
theorem len_rep {α : Type} (xs : List α) (k : Nat) : (List.replicate k xs).flatten.length = k * xs.length := by
  induction k with
  | zero => simp
  | succ k ih => rw [List.replicate_succ, List.flatten_cons, List.length_append, ih, Nat.succ_mul, Nat.add_comm]
theorem op_rep : OpR X (binaryOp .Mult) rRep := by
  intro pins s σ H x y v u Q I rx ry h
  obtain ⟨l, k, xs, rfl, rfl, hH, h1, h2, hz, q⟩ := h
  cases rx
  obtain ⟨t, rfl⟩ := ry
  obtain ⟨z, its, n, r, hl, e⟩ := I.lstM hH
  have hlen : its.toArray.size * k.toNat ≤ sizeLine := by rw [List.size_toArray, ← hl]; exact hz
  have hcap : ¬ its.toArray.size * k.toNat > (2 ^ 63 - 1) / 8 := by
    have : (sizeLine : Nat) ≤ (2 ^ 63 - 1) / 8 := by decide
    omega
  have hfit : ¬ (!Builtin.List.listFitsIndex k) = true := by
    rw [fitsIndex_both h1 h2]
    exact Bool.false_ne_true
  have hlong : ¬ Builtin.List.listTooLong (its.toArray.size * k.toNat) = true := by
    rw [notLongL hlen]
    exact Bool.false_ne_true
  have hnew : List.foldl (fun x1 x2 => x1 ++ x2) #[] (List.replicate (if its.toArray.isEmpty = true then 0 else k.toNat) its.toArray) = (List.replicate k.toNat its).flatten.toArray := by
    have f0 : ∀ m : Nat, List.foldl (fun x1 x2 => x1 ++ x2) #[] (List.replicate m its.toArray) = (List.replicate m its).flatten.toArray := fun m => by
      have := foldl_rep its m []
      rw [List.nil_append] at this
      exact this
    rw [f0]
    cases its with
    | nil => simp
    | cons a r' => rw [if_neg (by simp)]
  refine wpAny_binaryOp_repeat_ref (T := "list") (U := "int") (by decide) ⟨_, e, rfl⟩ (fun s' => typeIs_int s' k t) noFill_list_mul F.fills_int_mul F.slot_int_rmul repeat_list F.slot_int_index.lookup
    (call_meets F.slot_int_rmul (typeIs_int s k t) F.entry_int_rmul (F.args_int_rmul_2 _ _) (int___rmul___int_list k t l its.toArray n)
      ⟨e, rfl, ⟨_, e, rfl⟩, call_meets F.slot_list_mul ⟨_, e, rfl⟩ F.entry_list_mul (F.args_list_mul_2 _ _) (AutoListH.list___mul___list_int_3 l its.toArray n k t hfit hcap hlong) ⟨e, ?_⟩⟩)
  rw [hnew]
  exact ⟨.ref _, _, I.lnew (t' := s.toks) (r.rep k.toNat) (by rw [len_rep, Nat.mul_comm]; exact hz), rfl, q _ I.fresh⟩

/-! ### del xs[i] -/
end

/-! ### xs[a:b] = ys -/
section
variable {prog : Program} {w : World} {A : Around} {E : Value → Shared → Prop} {s : Shared}
set_option maxRecDepth 100000 in
end

section
variable {X : Cx}
end
end L2

namespace L2
open PySem PySem.Spec PyProof.Rows

theorem Vals.ints : ∀ {ns : List Int} {us : List Value}, Vals (ns.map V.int) us → IntsAre us ns
  | [], us, h => by
    rw [List.map_nil] at h
    cases h
    exact IntsAre.nil
  | n :: ns, us, h => by
    rw [List.map_cons] at h
    cases h with
    | cons r t =>
      obtain ⟨k, rfl⟩ := r
      exact IntsAre.cons n k (Vals.ints t)
theorem vals_of_ints : ∀ {us : List Value} {ns : List Int}, IntsAre us ns → Vals (ns.map V.int) us
  | _, _, .nil => by rw [List.map_nil]; exact Paired.nil
  | _, _, .cons n t h => by rw [List.map_cons]; exact Paired.cons (show RelV (V.int n) (Value.int n t) from ⟨t, rfl⟩) (vals_of_ints h)
theorem Vals.strs : ∀ {xs : List Str} {us : List Value}, Vals (xs.map V.str) us → StrsAre us xs
  | [], us, h => by
    rw [List.map_nil] at h
    cases h
    exact StrsAre.nil
  | x :: xs, us, h => by
    rw [List.map_cons] at h
    cases h with
    | cons r t =>
      obtain ⟨k, rfl⟩ := r
      exact StrsAre.cons x k (Vals.strs t)
theorem Vals.bls : ∀ {bs : List Bool} {us : List Value}, Vals (bs.map V.bl) us → us = bs.map Value.bool
  | [], us, h => by
    rw [List.map_nil] at h
    cases h
    rfl
  | b :: bs, us, h => by
    rw [List.map_cons] at h
    cases h with
    | cons r t =>
      cases r
      rw [Vals.bls t, List.map_cons]
theorem Vals.ref1 {a : Addr} {us : List Value} (r : Vals [V.ref a] us) : us = [Value.ref a] := by
  cases r with
  | cons r t =>
    cases t
    cases r
    rfl

/-! ### the library's walks over a list of ints, kept objects alone -/
section
variable {prog : Program} {w : World} {A : Around} {E : Value → Shared → Prop} {s : Shared} {l : Addr} {its : List Value} {ns : List Int} {Q : Value → Shared → Prop}
end

/-! ### the calls, by values (CallR of 03t; MtR of 06l) -/
section
variable {X : Cx}

/-! sorted, sort (fewer than 64 items: the library's own bound) -/
theorem small64 {n : Nat} (h : n < 64) : n ≤ sizeLine := by rw [sizeLine_eq]; omega
end

/-! ### list.index, flat items -/
section
variable {X : Cx}
end

/-! ### type(x) of an own instance; is, is not of a module's class -/
section
variable {X : Cx}
end

/-! ### any(xs), all(xs) of a list of bools -/
theorem iter_any {prog : Program} {w : World} {A : Around} {E : Value → Shared → Prop} {s : Shared} {l : Addr} {items : Array Value} {Q : Value → Shared → Prop} (hl : s.heap.IsList l items)
    (h : ∀ s₂ : Shared, s₂ = { s with heap := s.heap.push { cls := .type "list_iterator", data := .fields #[.ref l, .int 0 0] } } →
      (s₂.heap.IsListIter s.heap.objs.size l 0 ∧ s₂.heap.IsList l items) → l ≠ s.heap.objs.size → Q (.ref s.heap.objs.size) s₂) : wpAny (model prog w) A (pyIter (.ref l)) Q E s := by
  have hlt : l < s.heap.objs.size := by obtain ⟨_, e, _⟩ := hl; exact Heap.lt_size e
  exact wpAny_pyIter_list hl (h _ rfl ⟨⟨_, Heap.get?_push_size _ rfl, rfl, rfl⟩, hl.push _⟩ (Nat.ne_of_lt hlt))
theorem truth_bools {prog : Program} {w : World} {A : Around} {bs : List Bool} {its : List Value} (e : its = bs.map Value.bool) :
    TruthOf prog w A (fun i v => its.toArray[i]? = some v) (fun i => bs.getD i false) := fun i v s Q E hv hq => by
  have hv' : its[i]? = some v := by simpa using hv
  rw [e, List.getElem?_map] at hv'
  obtain ⟨b, hb, rfl⟩ := Option.map_eq_some_iff.mp hv'
  have hg : bs.getD i false = b := by rw [List.getD_eq_getElem?_getD, hb] <;> rfl
  have hq' : Q (bs.getD i false) s := hq
  rw [hg] at hq'
  exact wpAny_truthy_bool hq'
theorem any_range : ∀ bs : List Bool, (List.range bs.length).any (fun i => bs.getD i false) = bs.any id
  | [] => rfl
  | b :: bs => by
    rw [List.length_cons, List.range_succ_eq_map, List.any_cons, List.any_map, List.any_cons, ← any_range bs]
    all_goals rfl
theorem all_range : ∀ bs : List Bool, (List.range bs.length).all (fun i => bs.getD i false) = bs.all id
  | [] => rfl
  | b :: bs => by
    rw [List.length_cons, List.range_succ_eq_map, List.all_cons, List.all_map, List.all_cons, ← all_range bs]
    all_goals rfl
section
variable {X : Cx}
def rAny (K : PySem.W.Frag) : List V → Hp → VK → Prop := fun vs H Q => ∃ (a : Addr) (bs : List Bool), vs = [V.ref a] ∧ SqL K H a (bs.map V.bl) ∧ Q (.bl (bs.any id)) H
def rAll (K : PySem.W.Frag) : List V → Hp → VK → Prop := fun vs H Q => ∃ (a : Addr) (bs : List Bool), vs = [V.ref a] ∧ SqL K H a (bs.map V.bl) ∧ Q (.bl (bs.all id)) H
theorem cr_any (hc : X.calm = true) : CallR X (.builtin "any") (rAny X.K) := by
  intro pins s σ H vs us Q I r h
  obtain ⟨a, bs, rfl, hs, q⟩ := h
  obtain ⟨its, rv, hl, _⟩ := I.list hs
  rw [Vals.ref1 r]
  have hb := rv.bls
  refine call_any_walk (iter_any hl.isList fun s₂ e2 st hne => ?_)
  subst e2
  refine ⟨_, _, _, _, _, _, _, rfl, Walks.list (A := X.A.in1) (I.ok.hd hc) _ a hne its.toArray, st, truth_bools hb, fun h' tk hk => ?_⟩
  refine ⟨.bl _, H, I.kept fun b o eo => hk b o (fun hmem => ?_) (Heap.get?_push_of_some _ eo), ?_, q⟩
  · rcases List.mem_cons.mp hmem with e1 | hmem
    · exact absurd (e1 ▸ Heap.lt_size eo) (Nat.lt_irrefl _)
    · cases hmem
  · show Value.bool _ = Value.bool _
    rw [← any_range, hb, List.size_toArray, List.length_map]
theorem cr_all (hc : X.calm = true) : CallR X (.builtin "all") (rAll X.K) := by
  intro pins s σ H vs us Q I r h
  obtain ⟨a, bs, rfl, hs, q⟩ := h
  obtain ⟨its, rv, hl, _⟩ := I.list hs
  rw [Vals.ref1 r]
  have hb := rv.bls
  refine call_all_walk (iter_any hl.isList fun s₂ e2 st hne => ?_)
  subst e2
  refine ⟨_, _, _, _, _, _, _, rfl, Walks.list (A := X.A.in1) (I.ok.hd hc) _ a hne its.toArray, st, truth_bools hb, fun h' tk hk => ?_⟩
  refine ⟨.bl _, H, I.kept fun b o eo => hk b o (fun hmem => ?_) (Heap.get?_push_of_some _ eo), ?_, q⟩
  · rcases List.mem_cons.mp hmem with e1 | hmem
    · exact absurd (e1 ▸ Heap.lt_size eo) (Nat.lt_irrefl _)
    · cases hmem
  · show Value.bool _ = Value.bool _
    rw [← all_range, hb, List.size_toArray, List.length_map]
end

/-! ### == and != of data at any depth: none, bools, ints, texts, lists, tuples -/
mutual
inductive Dp (K : PySem.W.Frag) (H : Hp) : V → PyData → Prop
  | non : Dp K H .non .none
  | bl (b : Bool) : Dp K H (.bl b) (.bool b)
  | int (i : Int) : Dp K H (.int i) (.int i)
  | str (x : Str) : Dp K H (.str x) (.str x)
  | lst {a : Addr} {xs : List V} {ds : List PyData} : SqL K H a xs → DpAll K H xs ds → Dp K H (.ref a) (.list ds)
  | tup {a : Addr} {xs : List V} {ds : List PyData} : SqT K H a xs → DpAll K H xs ds → Dp K H (.ref a) (.tuple ds)
inductive DpAll (K : PySem.W.Frag) (H : Hp) : List V → List PyData → Prop
  | nil : DpAll K H [] []
  | cons {v : V} {vs : List V} {d : PyData} {ds : List PyData} : Dp K H v d → DpAll K H vs ds → DpAll K H (v :: vs) (d :: ds)
end
section
variable {X : Cx} {pins : List (Addr × Obj)} {σ : St} {H : Hp} {s : Shared}
mutual
theorem Dp.reads (I : Inv X pins σ H s) : ∀ (d : PyData) (v : V) (u : Value), Dp X.K H v d → RelV v u → ∃ as, Reads s.heap u d as
  | .none, _, _, h, r => by
    cases h
    cases r
    exact ⟨_, Reads.none⟩
  | .bool b, _, _, h, r => by
    cases h
    cases r
    exact ⟨_, Reads.bool b⟩
  | .int i, _, _, h, r => by
    cases h
    obtain ⟨t, rfl⟩ := r
    exact ⟨_, Reads.int i t⟩
  | .str x, _, _, h, r => by
    cases h
    obtain ⟨t, rfl⟩ := r
    exact ⟨_, Reads.str x t⟩
  | .list ds, _, _, h, r => by
    cases h with
    | lst hs ha =>
      cases r
      obtain ⟨its, rv, ⟨o, n, ho, hc, _, hd⟩, _⟩ := I.list hs
      obtain ⟨as, hr⟩ := Dp.readsAll I ds _ its ha rv
      exact ⟨_, Reads.list ho hc hd hr⟩
  | .tuple ds, _, _, h, r => by
    cases h with
    | tup hs ha =>
      cases r
      obtain ⟨its, rv, ⟨o, ho, hc, n, hd⟩, _⟩ := I.tuple hs
      obtain ⟨as, hr⟩ := Dp.readsAll I ds _ its ha rv
      exact ⟨_, Reads.tuple ho hc hd hr⟩
  | .dict _, _, _, h, _ => by cases h
theorem Dp.readsAll (I : Inv X pins σ H s) : ∀ (ds : List PyData) (vs : List V) (us : List Value), DpAll X.K H vs ds → Vals vs us → ∃ as, ReadsAll s.heap us ds as
  | [], _, _, h, r => by
    cases h
    cases r
    exact ⟨_, ReadsAll.nil⟩
  | d :: ds, _, _, h, r => by
    cases h with
    | cons h1 h2 =>
      cases r with
      | cons r1 r2 =>
        obtain ⟨as, q1⟩ := Dp.reads I d _ _ h1 r1
        obtain ⟨bs, q2⟩ := Dp.readsAll I ds _ _ h2 r2
        exact ⟨_, ReadsAll.cons q1 q2⟩
end
end
section
variable {X : Cx}
def rEqD (K : PySem.W.Frag) : R2 := fun x y H Q => ∃ d e, Dp K H x d ∧ Dp K H y e ∧ SeqAt.shaped d = true ∧ SeqAt.shaped e = true ∧ Q (.bl (PyData.eqv d e)) H
def rNeD (K : PySem.W.Frag) : R2 := fun x y H Q => ∃ d e, Dp K H x d ∧ Dp K H y e ∧ SeqAt.shaped d = true ∧ SeqAt.shaped e = true ∧ Q (.bl (!PyData.eqv d e)) H
theorem op_eqD (hu : X.A.units + 64 < cLine) : OpR X (compareOp .Eq) (rEqD X.K) := by
  intro pins s σ H x y v u Q I rx ry h
  obtain ⟨d, e, hd, he, sd, se, q⟩ := h
  obtain ⟨as, r1⟩ := Dp.reads I d x v hd rx
  obtain ⟨bs, r2⟩ := Dp.reads I e y u he ry
  exact SeqAt.compareEq_shaped r1 r2 sd se hu ⟨.bl _, H, I, rfl, q⟩
theorem op_neD (hu : X.A.units + 64 < cLine) : OpR X (compareOp .NotEq) (rNeD X.K) := by
  intro pins s σ H x y v u Q I rx ry h
  obtain ⟨d, e, hd, he, sd, se, q⟩ := h
  obtain ⟨as, r1⟩ := Dp.reads I d x v hd rx
  obtain ⟨bs, r2⟩ := Dp.reads I e y u he ry
  exact SeqAt.compareNe_shaped r1 r2 sd se hu ⟨.bl _, H, I, rfl, q⟩
end
end L2

namespace L2
open PySem PySem.Spec PyProof.Rows
abbrev CellAt (h : Heap) (c : Addr) (v : Option Value) : Prop := h.IsCell c v
def relS (scope sc : Scope) : Scope :=
  { scope with names := scope.names.map fun (n, k) => if (k == .free && sc.kind == .function && sc.names.lookup n == some .cell) then (n, .cell) else (n, k) }

def cloFrom (cells : List (Str × Addr)) : List (Str × NameKind) → List (Str × Addr) → List (Str × Addr)
  | [], acc => acc
  | (n, k) :: r, acc => if k == .free then cloFrom cells r ((n, (cells.lookup n).getD 0) :: acc) else cloFrom cells r acc

theorem closure_loop (env : Env) (f : Str × NameKind → List (Str × Addr) → Sem (ForInStep (List (Str × Addr))))
    (hf : ∀ n k c, f (n, k) c = if k == .free then (do let a ← cellOf env n; pure (.yield ((n, a) :: c))) else pure (.yield c)) :
    ∀ (names : List (Str × NameKind)) (acc : List (Str × Addr)), (∀ y ∈ names, y.2 = .free → ∃ c, env.cells.lookup y.1 = some c) → forIn names acc f = pure (cloFrom env.cells names acc)
  | [], acc, _ => by rw [List.forIn_nil]; rfl
  | (n, k) :: r, acc, h => by
    rw [List.forIn_cons, hf]
    have ih := fun acc => closure_loop env f hf r acc fun y hy => h y (List.mem_cons_of_mem _ hy)
    unfold cloFrom
    by_cases hk : (k == NameKind.free) = true
    · rw [if_pos hk, if_pos hk]
      obtain ⟨c, hc⟩ := h (n, k) List.mem_cons_self (by simpa using hk)
      have e : cellOf env n = pure c := by unfold cellOf; rw [hc]
      rw [e]
      have e2 : (env.cells.lookup n).getD 0 = c := by rw [hc]; rfl
      rw [e2]
      exact ih _
    · rw [if_neg hk, if_neg hk]
      exact ih _
theorem closure_ok {scope : Scope} {env : Env} (h : ∀ y ∈ scope.names, y.2 = .free → ∃ c, env.cells.lookup y.1 = some c) : closureFor scope env = pure (cloFrom env.cells scope.names []) := by
  simp only [closureFor]
  rw [closure_loop env _ (fun n k c => rfl) scope.names [] h]
  rfl

theorem mem_lookup {α : Type} : ∀ {l : List (Str × α)} {n : Str} {c : α}, (n, c) ∈ l → ∃ c', l.lookup n = some c'
  | (k, v) :: r, n, c, h => by
    rw [List.lookup_cons]
    cases hb : n == k with
    | true => exact ⟨_, rfl⟩
    | false =>
      rcases List.mem_cons.mp h with e | h
      · cases e; simp at hb
      · exact mem_lookup h

theorem cloFrom_mem {cells : List (Str × Addr)} : ∀ {names : List (Str × NameKind)} {acc : List (Str × Addr)} {n : Str} {c : Addr}, (n, c) ∈ cloFrom cells names acc → (n, c) ∈ acc ∨ ((n, .free) ∈ names ∧ c = (cells.lookup n).getD 0)
  | [], _, _, _, h => .inl h
  | (m, k) :: r, acc, n, c, h => by
    unfold cloFrom at h
    split at h
    · rename_i hk
      have hk : k = .free := by simpa using hk
      rcases cloFrom_mem h with h | ⟨h1, h2⟩
      · rcases List.mem_cons.mp h with e | h
        · cases e; exact .inr ⟨hk ▸ List.mem_cons_self, rfl⟩
        · exact .inl h
      · exact .inr ⟨List.mem_cons_of_mem _ h1, h2⟩
    · rcases cloFrom_mem h with h | ⟨h1, h2⟩
      · exact .inl h
      · exact .inr ⟨List.mem_cons_of_mem _ h1, h2⟩
theorem cloFrom_acc {cells : List (Str × Addr)} : ∀ {names : List (Str × NameKind)} {acc : List (Str × Addr)} {p : Str × Addr}, p ∈ acc → p ∈ cloFrom cells names acc
  | [], _, _, h => h
  | (m, k) :: r, acc, p, h => by
    unfold cloFrom
    split
    · exact cloFrom_acc (List.mem_cons_of_mem _ h)
    · exact cloFrom_acc h
theorem cloFrom_has {cells : List (Str × Addr)} : ∀ {names : List (Str × NameKind)} {acc : List (Str × Addr)} {n : Str}, (n, .free) ∈ names → (n, (cells.lookup n).getD 0) ∈ cloFrom cells names acc
  | (m, k) :: r, acc, n, h => by
    unfold cloFrom
    rcases List.mem_cons.mp h with e | h
    · cases e
      exact cloFrom_acc List.mem_cons_self
    · split
      · exact cloFrom_has h
      · exact cloFrom_has h

theorem cells_mem : ∀ {names : List (Str × NameKind)} {h : Heap} {acc : List (Str × Addr)} {x : Str} {c : Addr}, (x, c) ∈ cellsFrom h.objs.size names acc →
    (x, c) ∈ acc ∨ ((x, .cell) ∈ names ∧ h.objs.size ≤ c ∧ CellAt (pushCells h names) c none)
  | [], _, _, _, _, h => .inl h
  | (n, k) :: r, h, acc, x, c, hm => by
    unfold cellsFrom at hm
    unfold pushCells
    split at hm
    · rename_i hk
      rw [if_pos hk]
      have hk : k = .cell := by simpa using hk
      rw [← Heap.size_push h { cls := .type "cell", data := .cell none }] at hm
      rcases cells_mem hm with hm | ⟨h1, h2, h3⟩
      · rcases List.mem_cons.mp hm with e | hm
        · cases e
          exact .inr ⟨hk ▸ List.mem_cons_self, Nat.le_refl _, _, pushCells_keeps r _ _ _ (Heap.get?_push_size _ rfl), rfl⟩
        · exact .inl hm
      · rw [Heap.size_push] at h2
        exact .inr ⟨List.mem_cons_of_mem _ h1, Nat.le_of_succ_le h2, h3⟩
    · rename_i hk
      rw [if_neg hk]
      rcases cells_mem hm with hm | ⟨h1, h2, h3⟩
      · exact .inl hm
      · exact .inr ⟨List.mem_cons_of_mem _ h1, h2, h3⟩
theorem cells_acc : ∀ {names : List (Str × NameKind)} {n : Nat} {acc : List (Str × Addr)} {p : Str × Addr}, p ∈ acc → p ∈ cellsFrom n names acc
  | [], _, _, _, h => h
  | (m, k) :: r, n, acc, p, h => by
    unfold cellsFrom
    split
    · exact cells_acc (List.mem_cons_of_mem _ h)
    · exact cells_acc h
theorem cells_has : ∀ {names : List (Str × NameKind)} {n : Nat} {acc : List (Str × Addr)} {x : Str}, (x, .cell) ∈ names → ∃ c, (x, c) ∈ cellsFrom n names acc
  | (m, k) :: r, n, acc, x, h => by
    unfold cellsFrom
    rcases List.mem_cons.mp h with e | h
    · cases e
      exact ⟨n, cells_acc List.mem_cons_self⟩
    · split
      · exact cells_has h
      · exact cells_has h
theorem cells_inj : ∀ {names : List (Str × NameKind)} {h : Heap} {acc : List (Str × Addr)} {x y : Str} {c : Addr}, (∀ p ∈ acc, p.2 < h.objs.size) → (∀ x y c, (x, c) ∈ acc → (y, c) ∈ acc → x = y) →
    (x, c) ∈ cellsFrom h.objs.size names acc → (y, c) ∈ cellsFrom h.objs.size names acc → x = y
  | [], _, _, _, _, _, _, hi, h1, h2 => hi _ _ _ h1 h2
  | (n, k) :: r, h, acc, x, y, c, hl, hi, h1, h2 => by
    unfold cellsFrom at h1 h2
    split at h1
    · rename_i hk
      rw [if_pos hk] at h2
      rw [← Heap.size_push h { cls := .type "cell", data := .cell none }] at h1 h2
      refine cells_inj (h := h.push _) (fun p hp => ?_) (fun x y c a b => ?_) h1 h2
      · rw [Heap.size_push]
        rcases List.mem_cons.mp hp with rfl | hp
        · exact Nat.lt_succ_self _
        · exact Nat.lt_succ_of_lt (hl p hp)
      · rcases List.mem_cons.mp a with e | a <;> rcases List.mem_cons.mp b with e' | b
        · cases e; cases e'; rfl
        · cases e; exact absurd (hl _ b) (Nat.lt_irrefl _)
        · cases e'; exact absurd (hl _ a) (Nat.lt_irrefl _)
        · exact hi _ _ _ a b
    · rename_i hk
      rw [if_neg hk] at h2
      exact cells_inj hl hi h1 h2

theorem newEnv_comp {M : Model} {A : Around} {E : Value → Shared → Prop} {s : Shared} {scope : Scope} {globals : Addr} {closure : List (Str × Addr)} {qual : Str} {func : Option Addr} {code : Value} {around : Env} {builtins : Addr} {Q : Env → Shared → Prop}
    (h : Q (newEnv scope s.heap.objs.size globals (cellsFrom (s.heap.objs.size + 1) scope.names closure) qual func code (some around) builtins)
      { s with heap := pushCells (s.heap.push { cls := .type "dict", data := .dict #[] }) scope.names }) :
    wpAny M A (newFunctionEnv scope globals closure [] qual func code (some around) builtins) Q E s := by
  simp only [newFunctionEnv, Option.isSome_some, if_true]
  refine wpAny_bind (wpAny_alloc ?_)
  refine wpAny_bind (wpAny_layCells _ (fun n k c => rfl) scope.names closure _ _ ?_)
  rw [show ({ s with heap := s.heap.push { cls := .type "dict", data := .dict #[] } } : Shared).heap.objs.size = s.heap.objs.size + 1 from Heap.size_push ..]
  rw [List.forIn_nil]
  exact wpAny_bind (wpAny_pure (wpAny_pure h))

/-- every name of the written scope, in the scope that runs -/
theorem lookup_relS {sc : Scope} : ∀ {names : List (Str × NameKind)} {x : Str} {k : NameKind},
    (names.map fun (n, k) => if (k == NameKind.free && sc.kind == .function && sc.names.lookup n == some .cell) then (n, NameKind.cell) else (n, k)).lookup x = some k →
    ∃ k', names.lookup x = some k' ∧ (k = k' ∨ (k' = .free ∧ k = .cell))
  | [], _, _, h => by simp at h
  | (n, k₀) :: r, x, k, h => by
    have ih := @lookup_relS sc r x k
    have h' : List.lookup x ((if (k₀ == NameKind.free && sc.kind == .function && sc.names.lookup n == some .cell) = true then (n, NameKind.cell) else (n, k₀)) :: (r.map _)) = some k := h
    cases hx : x == n with
    | true =>
      simp only [List.lookup_cons, hx]
      by_cases hc : (k₀ == NameKind.free && sc.kind == .function && sc.names.lookup n == some .cell) = true
      · rw [if_pos hc] at h'
        simp only [List.lookup_cons, hx] at h'
        cases h'
        simp only [Bool.and_eq_true, beq_iff_eq] at hc
        exact ⟨k₀, rfl, .inr ⟨hc.1.1, rfl⟩⟩
      · rw [if_neg hc] at h'
        simp only [List.lookup_cons, hx] at h'
        cases h'
        exact ⟨_, rfl, .inl rfl⟩
    | false =>
      simp only [List.lookup_cons, hx]
      by_cases hc : (k₀ == NameKind.free && sc.kind == .function && sc.names.lookup n == some .cell) = true
      · rw [if_pos hc] at h'
        simp only [List.lookup_cons, hx] at h'
        exact ih h'
      · rw [if_neg hc] at h'
        simp only [List.lookup_cons, hx] at h'
        exact ih h'



/-- the names of a comprehension's block: its own (with their places in N), or captured -/
structure BlkOk (N : List Str) (sc scope : Scope) (own : List (Str × Nat)) : Prop where
  kind : scope.kind = .function
  uniq : ∀ y ∈ scope.names, scope.names.lookup y.1 = some y.2
  ix : ∀ p ∈ own, N[p.2]? = some p.1
  free : ∀ y ∈ scope.names, y.2 = .free → sc.names.lookup y.1 = some .cell ∨ sc.names.lookup y.1 = some .free
  own : ∀ y ∈ scope.names, y.2 = .local ∨ y.2 = .cell → y.1 ∈ own.map (·.1) ∨ y.1 ∉ N
/-- the slots of the block's own names forgotten -/
def wipe (σ : St) : List Nat → St
  | [] => σ
  | v :: vs => (wipe σ vs).set v none
theorem wipe_length (σ : St) : ∀ vs : List Nat, (wipe σ vs).length = σ.length
  | [] => rfl
  | v :: vs => by unfold wipe; rw [List.length_set, wipe_length σ vs]
theorem wipe_some {σ : St} {i : Nat} {x : V} : ∀ {vs : List Nat}, (wipe σ vs)[i]? = some (some x) → σ[i]? = some (some x) ∧ i ∉ vs
  | [], h => ⟨h, by simp⟩
  | v :: vs, h => by
    unfold wipe at h
    by_cases hi : v = i
    · subst hi
      by_cases hv : v < (wipe σ vs).length
      · rw [List.getElem?_set_self hv] at h; cases h
      · rw [List.getElem?_eq_none (by simpa using hv)] at h; cases h
    · rw [List.getElem?_set_ne hi] at h
      obtain ⟨h1, h2⟩ := wipe_some h
      exact ⟨h1, by simp only [List.mem_cons, not_or]; exact ⟨fun e => hi e.symm, h2⟩⟩

/-- the context of a block that starts at s, its iterator's objects at fp -/
abbrev Cx.blk (X : Cx) (s : Shared) (H : Hp) (scope : Scope) (cenv : Env) (fp : List Addr) : Cx := { X with s_0 := s, H_0 := H, env := cenv, outer := X.stack, ex := fp, fn := fun x => scope.names.lookup x == some .cell, pn := [], xe := fun _ _ => False }
section
variable {X : Cx} {pins : List (Addr × Obj)} {σ : St} {H : Hp} {s : Shared}
theorem block_start {scope : Scope} {own : List (Str × Nat)} {fp : List Addr} (I : Inv X pins σ H s) (ok : BlkOk X.N X.env.scope scope own) (hN : X.N.Nodup) (hfp : ∀ b ∈ fp, FpOk X pins H b ∧ b < s.heap.objs.size) :
    Inv (X.blk s H scope (compEnvC scope (cellsFrom (s.heap.objs.size + 1) scope.names (cloFrom X.env.cells scope.names [])) s.heap.objs.size X.env) fp) [] (wipe σ (own.map (·.2))) H { s with heap := pushCells (s.heap.push { cls := .type "dict", data := .dict #[] }) scope.names } := by
  have hfree : ∀ y ∈ scope.names, y.2 = .free → ∃ c, X.env.cells.lookup y.1 = some c := fun y hy e => by
    rcases ok.free y hy e with k | k
    · exact I.ok.has _ (.inl k)
    · exact I.ok.has _ (.inr k)
  generalize hcenv : compEnvC scope (cellsFrom (s.heap.objs.size + 1) scope.names (cloFrom X.env.cells scope.names [])) s.heap.objs.size X.env = cenv
  have kp : ∀ b o, s.heap.get? b = some o → (pushCells (s.heap.push { cls := .type "dict", data := .dict #[] }) scope.names).get? b = some o := fun b o e => pushCells_keeps _ _ _ _ (Heap.get?_push_of_some _ e)
  have hL : cenv.locals = s.heap.objs.size := by rw [← hcenv]; rfl
  have hcl : cenv.cells = cellsFrom (s.heap.objs.size + 1) scope.names (cloFrom X.env.cells scope.names []) := by rw [← hcenv]; rfl
  have hsc : cenv.scope = relS scope X.env.scope := by rw [← hcenv]; rfl
  rw [← Heap.size_push s.heap { cls := .type "dict", data := .dict #[] }] at hcl
  have cm : ∀ {y c}, (y, c) ∈ cloFrom X.env.cells scope.names [] → X.env.cells.lookup y = some c ∧ c < s.heap.objs.size := fun {y c} hm => by
    rcases cloFrom_mem hm with hm | ⟨h1, rfl⟩
    · cases hm
    · obtain ⟨c, hc⟩ := hfree _ h1 rfl
      rw [hc]
      obtain ⟨w, z⟩ := I.cell _ _ hc
      exact ⟨rfl, z.lt⟩
  have mem : ∀ {y c}, cenv.cells.lookup y = some c → (X.env.cells.lookup y = some c ∧ c < s.heap.objs.size) ∨ (s.heap.objs.size + 1 ≤ c ∧ CellAt (pushCells (s.heap.push { cls := .type "dict", data := .dict #[] }) scope.names) c none) := fun {y c} e => by
    rw [hcl] at e
    rcases cells_mem (PySem.mem_of_lookup e) with hm | ⟨_, h2, h3⟩
    · exact .inl (cm hm)
    · rw [Heap.size_push] at h2; exact .inr ⟨h2, h3⟩
  have look : ∀ {y}, scope.names.lookup y = some .free → ∃ c, cenv.cells.lookup y = some c ∧ X.env.cells.lookup y = some c := fun {y} hl => by
    have hy : (y, NameKind.free) ∈ scope.names := PySem.mem_of_lookup hl
    obtain ⟨c', e'⟩ := mem_lookup (cells_acc (names := scope.names) (n := (s.heap.push { cls := .type "dict", data := .dict #[] }).objs.size) (cloFrom_has (cells := X.env.cells) (acc := []) hy))
    rw [← hcl] at e'
    refine ⟨c', e', ?_⟩
    rw [hcl] at e'
    rcases cells_mem (PySem.mem_of_lookup e') with hm | ⟨h1, _, _⟩
    · exact (cm hm).1
    · have := ok.uniq _ h1
      rw [hl] at this; cases this
  have okB : (X.blk s H scope cenv fp).Ok := by
    refine ⟨I.ok.mod, by show cenv.scope.kind = _; rw [hsc]; exact ok.kind, by show cenv.globals = _; rw [← hcenv]; exact I.ok.glob, by show cenv.builtins = _; rw [← hcenv]; exact I.ok.blt, by show s.heap.objs.size ≤ cenv.locals; rw [hL]; exact Nat.le_refl _,
      fun y z c e1 e2 => ?_, fun y hy => ?_, fun y c z e => ?_, I.ok.hd, I.ok.frames, .inl rfl, fun b hb => ⟨?_, fun y c e z => ?_⟩, I.bs, Nat.le_trans I.ok.bsz I.sz, fun b o e hb => ?_, fun b hb z => ?_, I.stack, I.stkFree⟩
    · have e1 : cenv.cells.lookup y = some c := e1
      have e2 : cenv.cells.lookup z = some c := e2
      rw [hcl] at e1 e2
      refine cells_inj (fun p hp => ?_) (fun y z c a b => I.ok.inj y z c (cm a).1 (cm b).1) (PySem.mem_of_lookup e1) (PySem.mem_of_lookup e2)
      rw [Heap.size_push]
      exact Nat.lt_succ_of_lt (cm (y := p.1) (c := p.2) hp).2
    · show ∃ c, cenv.cells.lookup y = some c
      have key : ∀ k, cenv.kindOf y = some k → (k = .cell ∨ k = .free) → ∃ c, cenv.cells.lookup y = some c := fun k hk hk' => by
        unfold Env.kindOf at hk
        rw [hsc] at hk
        obtain ⟨k', e, r⟩ := lookup_relS hk
        have : k' = .cell ∨ k' = .free := by
          rcases r with rfl | ⟨rfl, _⟩
          · exact hk'
          · exact .inr rfl
        rcases this with rfl | rfl
        · obtain ⟨c, hm⟩ := cells_has (n := (s.heap.push { cls := .type "dict", data := .dict #[] }).objs.size) (acc := cloFrom X.env.cells scope.names []) (PySem.mem_of_lookup e)
          obtain ⟨c', e'⟩ := mem_lookup hm
          exact ⟨c', by rw [hcl]; exact e'⟩
        · obtain ⟨c, h1, _⟩ := look e
          exact ⟨c, h1⟩
      rcases hy with hy | hy
      · exact key _ hy (.inl rfl)
      · exact key _ hy (.inr rfl)
    · have z : (scope.names.lookup y == some NameKind.cell) = true := z
      have z : scope.names.lookup y = some .cell := by simpa using z
      have e : cenv.cells.lookup y = some c := e
      rw [hcl] at e
      rcases cells_mem (PySem.mem_of_lookup e) with hm | ⟨_, h2, _⟩
      · rcases cloFrom_mem hm with hm | ⟨h1, _⟩
        · cases hm
        · have q := ok.uniq _ h1
          rw [z] at q; cases q
      · rw [Heap.size_push] at h2
        exact Nat.le_of_succ_le h2
    · show b ≠ cenv.locals
      rw [hL]; exact Nat.ne_of_lt (hfp b hb).2
    · have e : cenv.cells.lookup y = some c := e
      rcases mem e with ⟨h1, _⟩ | ⟨h1, _⟩
      · exact (hfp b hb).1.2.2.2.2.1 y c h1 z
      · have h2 : s.heap.objs.size + 1 ≤ b := by rw [← z]; exact h1
        exact absurd (Nat.lt_of_lt_of_le (hfp b hb).2 (Nat.le_of_succ_le h2)) (Nat.lt_irrefl _)
    · rcases (hfp b hb).1.2.2.2.1 with z | z
      · exact I.ok.noex b o e z
      · exact absurd (Nat.lt_of_lt_of_le (Heap.lt_size e) (Nat.le_trans I.ok.bsz z)) (Nat.lt_irrefl _)
    · rcases List.mem_cons.mp (I.stkSub b z) with z | z
      · exact (hfp b hb).1.2.1 z
      · exact (hfp b hb).1.2.2.1 z
  refine ⟨okB, rfl, I.bare, Un.kept kp, ⟨fun _ => none, ?_, fun i y av e1 e2 e3 => ?_⟩, fun y c e => ?_, ?_, fun y c e => ?_, fun p hp => ?_, I.hok.kept kp, by rw [wipe_length]; exact I.len⟩
  · show Heap.Ns _ cenv.locals _
    rw [hL]
    exact Heap.Ns.keeps (Heap.Ns.new ..) fun b o e => pushCells_keeps _ _ _ _ e
  · obtain ⟨e2, hne⟩ := wipe_some e2
    have hfr : scope.names.lookup y = some .free ∧ (cenv.kindOf y = some .cell ∨ cenv.kindOf y = some .free) := by
      have key : ∀ k, cenv.scope.names.lookup y = some k → k = .local ∨ k = .cell ∨ k = .free → scope.names.lookup y = some .free ∧ (cenv.kindOf y = some .cell ∨ cenv.kindOf y = some .free) := fun k hk hk' => by
        have hk0 := hk
        rw [hsc] at hk
        obtain ⟨k', e, r⟩ := lookup_relS hk
        have no : ¬ (k' = .local ∨ k' = .cell) := fun hh => by
          rcases ok.own _ (PySem.mem_of_lookup e) hh with e' | e'
          · obtain ⟨p, hp, hpy⟩ := List.mem_map.mp e'
            have e3 := ok.ix p hp
            have : p.1 = y := hpy
            rw [this] at e3
            exact hne (List.mem_map.mpr ⟨p, hp, nodup_ix hN e3 e1⟩)
          · exact e' (List.mem_of_getElem? e1)
        rcases r with rfl | ⟨rfl, rfl⟩
        · rcases hk' with rfl | rfl | rfl
          · exact absurd (.inl rfl) no
          · exact absurd (.inr rfl) no
          · exact ⟨e, .inr hk0⟩
        · exact ⟨e, .inl hk0⟩
      have e3 : Vis cenv.scope y := e3
      rcases e3 with e3 | e3 | e3
      · exact key _ e3 (.inl rfl)
      · exact key _ e3 (.inr (.inl rfl))
      · exact key _ e3 (.inr (.inr rfl))
    obtain ⟨m, hn, hl⟩ := I.loc
    have hvis : Vis X.env.scope y := (ok.free _ (PySem.mem_of_lookup hfr.1) rfl).elim (fun k => .inr (.inl k)) (fun k => .inr (.inr k))
    obtain ⟨w, r, q⟩ := hl i y av e1 e2 hvis
    refine ⟨w, r, .inr ⟨hfr.2, ?_⟩⟩
    obtain ⟨c, h1, h2⟩ := look hfr.1
    rcases q with ⟨k, _⟩ | ⟨_, c', e', z⟩
    · have k : X.env.scope.names.lookup y = some .local := k
      rcases ok.free _ (PySem.mem_of_lookup hfr.1) rfl with k' | k' <;> rw [show X.env.scope.names.lookup y = _ from k'] at k <;> cases k
    · rw [h2] at e'; cases e'
      exact ⟨c, h1, z.keeps kp⟩
  · have e : cenv.cells.lookup y = some c := e
    rcases mem e with ⟨h1, _⟩ | ⟨_, z⟩
    · obtain ⟨w, z⟩ := I.cell y c h1
      exact ⟨w, z.keeps kp⟩
    · exact ⟨_, z⟩
  · show H cenv.locals = none
    rw [hL]; exact I.hok.fresh (Nat.le_refl _)
  · have e : cenv.cells.lookup y = some c := e
    rcases mem e with ⟨h1, _⟩ | ⟨h1, _⟩
    · exact I.freeC y c h1
    · exact I.hok.fresh (Nat.le_of_succ_le h1)
  · exact absurd (show p ∈ ([] : List (Addr × Obj)) ++ [] from hp) (by simp)

/-- an item appended to a tracked list -/
theorem app_ok {E : Value → Shared → Prop} {D : Addr} {xs : List V} {y : V} {v : Value} {Q : Value → Shared → Prop} (I : Inv X pins σ H s) (hD : H D = some (.lst xs)) (hz : xs.length < sizeLine) (r : RelV y v)
    (h : ∀ s', Inv X pins σ (upd H D (.lst (xs ++ [y]))) s' → Q .none s') : wpAny (model X.prog X.w) X.A (call (.builtin "list.append") [.ref D, v]) Q E s := by
  obtain ⟨hz', its, n, ri, e⟩ := I.hok D _ hD
  have hl := ri.length
  refine append_at (hsz := by rw [List.size_toArray]; omega) e fun h' sb ho' => ?_
  refine h { s with heap := h' } (I.write (t' := s.toks) (by rw [hD]; trivial) (.inl rfl) (fun b u hb q => (sb.2 b hb).trans q) ⟨_, ho'⟩ ⟨by rw [List.length_append]; exact hz, its ++ [v], n + 1, ri.append (.cons r .nil), ?_⟩)
  rw [ho']
  simp

/-- a clause's tests -/
def PTs (X : Cx) (ifs : List Expr) (t : TT) : Prop :=
  ∀ (pins : List (Addr × Obj)) (s : Shared) (σ : St) (H : Hp) (Q : Bool → Hp → Prop), Inv X pins σ H s → t σ H Q →
    wpAny (model X.prog X.w) X.A (forIn ifs true fun c r => if r = true then do let ok ← isTrue c X.env (eval c X.env); pure (ForInStep.yield ok) else pure (ForInStep.yield r)) (TP X pins σ Q) X.xe s
def tYes : TT := fun _ H Q => Q true H
theorem pts_nil : PTs X [] tYes := fun _ _ _ H _ I h => wpAny_tests_nil ⟨H, I, h⟩
theorem pts_one {c : Expr} {t : TT} (h : PT X c t) : PTs X [c] t := fun pins s σ H Q I hw => wpAny_tests_one (h pins s σ H Q I hw)
end

theorem thnF {α : Type} {t : Sem α} {Q Q' : α → Shared → Prop} {M : Model} {A : Around} {E : Value → Shared → Prop} {s : Shared} (h : wpAny M A t Q (fun _ _ => False) s) (hQ : ∀ a s, Q a s → Q' a s) : wpAny M A t Q' E s := wpAny_mono h hQ fun _ _ z => False.elim z

/-- the loop of a list comprehension's block, the target of any form (codeAny_compLoop_tests asks a target that no tuple goes to; statement and proof follow it, PyProof/CompMap.lean:41-61, with the step letOwnedTupleGo kept) -/
theorem compLoop_any {prog : Program} {w : World} {A : Around} {R : Result → Shared → Prop} {s : Shared} {elt target iter : Expr} {ifs : List Expr} {scope : Scope} {pos : Pos} {it acc : Value} {env : Env} (I : Nat → Shared → Prop)
    (turn : ∀ n s, I n s → wpAny (model prog w) A (pyNext it) (fun r s₁ => match r with
      | none => R (.ok .next) s₁
      | some v => wpAny (model prog w) A (letOwnedTupleGo target it v) (fun _ s₁' => wpAny (model prog w) A (assign target env v) (fun _ s₂ =>
          wpAny (model prog w) A (forIn ifs true fun c r => if r = true then do let ok ← isTrue c env (eval c env); pure (ForInStep.yield ok) else pure (ForInStep.yield r)) (fun ok s₃ =>
            if ok = true then wpAny (model prog w) A (eval elt env) (fun x s₄ =>
              wpAny (model prog w) A (call (.builtin "list.append") [acc, x]) (fun _ s₅ => ∃ m, m < n ∧ I m s₅) (notedBy (model prog w) A env fun e s' => R (.error e) s') s₄) (notedBy (model prog w) A env fun e s' => R (.error e) s') s₃
            else ∃ m, m < n ∧ I m s₃) (notedBy (model prog w) A env fun e s' => R (.error e) s') s₂) (notedBy (model prog w) A env fun e s' => R (.error e) s') s₁') (notedBy (model prog w) A env fun e s' => R (.error e) s') s₁) (notedBy (model prog w) A env fun e s' => R (.error e) s') s)
    (n : Nat) (h : I n s) :
    codeAny (model prog w) A (.compLoop (.ListComp elt [⟨target, iter, ifs, 0⟩] scope pos) 0 it acc env) R s := by
  refine codeAny_loop rfl I (fun n s hI => ?_) n h
  show wpAny _ A ((compTurn (.ListComp elt [⟨target, iter, ifs, 0⟩] scope pos) 0 it acc env).onRaise (fun x => do noteFrame x env; theTreesLotGoes x)) _ _ s
  refine wpAny_noted ?_
  rw [compTurn_list]
  refine wpAny_bind (wpAny_standAt (wpAny_bind (wpAny_mono (turn n s hI) (fun r s₁ h₁ => ?_) fun _ _ h' => h')))
  cases r with
  | none => exact wpAny_pure h₁
  | some v =>
    refine wpAny_bind (wpAny_mono h₁ (fun _ s₁' h₁' => ?_) fun _ _ h' => h')
    refine wpAny_bind (wpAny_mono h₁' (fun _ s₂ h₂ => wpAny_bind (wpAny_mono h₂ (fun ok s₃ h₃ => ?_) fun _ _ h' => h')) fun _ _ h' => h')
    cases ok with
    | false => exact wpAny_pure ⟨rfl, h₃⟩
    | true =>
      exact wpAny_bind (wpAny_bind (wpAny_mono h₃ (fun x s₄ h₄ => wpAny_bind (wpAny_mono h₄ (fun _ s₅ h₅ => wpAny_pure (wpAny_pure ⟨rfl, h₅⟩)) fun _ _ h' => h')) fun _ _ h' => h'))

section
variable {X : Cx}
/-- [elt for target in iter if ..]: D the new list; W by the turn and a measure, Nx what a turn is to reach -/
def tLc (wi : TI) (g : TG) (tt : TT) (te : TE) (vs : List Nat) : TE := fun σ H Q => wi σ H fun J H1 => ∀ D, H1 D = none → ∃ W : Nat → Nat → Hp → Prop, (∃ m, W 0 m (upd H1 D (.lst []))) ∧ ∀ i m H, W i m H →
  (J.stop i H ∧ Q (.ref D) H) ∨ (J.go i H ∧ ∃ Nx : Hp → Prop, (∀ H', Nx H' → ∃ m', m' < m ∧ W (i + 1) m' H') ∧ ∀ x H', J.yld i H x H' → g x (wipe σ vs) H' fun σ2 H2 => wipe σ2 vs = wipe σ vs ∧ tt σ2 H2 fun b H3 =>
    if b = true then te σ2 H3 fun y H4 => ∃ acc, H4 D = some (.lst acc) ∧ acc.length < sizeLine ∧ Nx (upd H4 D (.lst (acc ++ [y]))) else Nx H3)
theorem lc_core {pins : List (Addr × Obj)} {s : Shared} {σ : St} {H : Hp} {Q : VK} {elt tg iter : Expr} {ifs : List Expr} {scope : Scope} {own : List (Str × Nat)} {pos pos' : Pos} {wi : TI} {g : TG} {tt : TT} {te : TE} {use : Option (Value → Sem Unit)} {Qf : Value → Shared → Prop}
    (hc : X.calm = true) (hN : X.N.Nodup) (I : Inv X pins σ H s) (hi : PI X tg iter wi) (ok : BlkOk X.N X.env.scope scope own)
    (hg : ∀ (s : Shared) (H : Hp) (C : Addr) (cl : List (Str × Addr)) (fp : List Addr), PG (X.blk s H scope (compEnvC scope cl C X.env) fp) tg g) (ht : ∀ (s : Shared) (H : Hp) (C : Addr) (cl : List (Str × Addr)) (fp : List Addr), PTs (X.blk s H scope (compEnvC scope cl C X.env) fp) ifs tt)
    (he : ∀ (s : Shared) (H : Hp) (C : Addr) (cl : List (Str × Addr)) (fp : List Addr), PE (X.blk s H scope (compEnvC scope cl C X.env) fp) elt te) (hs : ∀ x, foldedSetIterable iter X.env x = pure x)
    (h : tLc wi g tt te (own.map (·.2)) σ H Q)
    (hRR : ∀ D C s' m H', Inv X pins σ H' s' → Q (.ref D) H' → s'.heap.Ns C m → FpOk X pins H' C → compPost (model X.prog X.w) X.A X.xe use Qf (.ref D) C (.ok .next) s') :
    wpAny (model X.prog X.w) X.A (comprehension (.ListComp elt [⟨tg, iter, ifs, 0⟩] scope pos) scope X.env pos' (newList []) false (eval iter X.env) use) Qf X.xe s := by
  have hfree : ∀ y ∈ scope.names, y.2 = .free → ∃ c, X.env.cells.lookup y.1 = some c := fun y hy e => by
    rcases ok.free y hy e with k | k
    · exact I.ok.has _ (.inl k)
    · exact I.ok.has _ (.inr k)
  refine wpAny_comprehension_free (use := use) rfl hs (closure_ok hfree) ok.kind (fun y hy e => by rw [ok.uniq y hy, e])
    (thn (hi pins s σ H _ I h) fun xv s1 hx => thn hx fun itv s2 h2 => ?_)
  obtain ⟨it, fp, tn, J, H2, e, I2, T, st2, f2, q⟩ := h2
  subst e
  refine wpAny_newObj_type (newEnv_comp ?_) (by show 0 ≤ sizeLine; decide)
  generalize hD : s2.heap.objs.size = D
  have hDn : H2 D = none := I2.hok.fresh (Nat.le_of_eq hD)
  obtain ⟨W, ⟨m0, w0⟩, turn⟩ := q D hDn
  -- the new list
  generalize hs3 : ({ s2 with heap := s2.heap.push { cls := .type "list", data := .seq ([] : List Value).toArray } } : Shared) = s3
  have I3 : Inv X pins σ (upd H2 D (.lst [])) s3 := by
    rw [← hs3]
    refine I2.laid (t' := s2.toks) (fun b o e => Heap.get?_push_of_some _ e) (Nat.le_of_eq hD) ⟨Nat.zero_le _, [], 0, .nil, ?_⟩
    rw [← hD]
    exact Heap.get?_push_size _ rfl
  have h3 : s3.heap = s2.heap.push { cls := .type "list", data := .seq ([] : List Value).toArray } := by rw [← hs3]
  have sz : ∀ b ∈ fp, b < s2.heap.objs.size := fun b hb => by
    obtain ⟨o, e, _⟩ := T.obj _ _ st2 b hb
    exact Heap.lt_size e
  have f3 : ∀ b ∈ fp, FpOk X pins (upd H2 D (.lst [])) b ∧ b < s3.heap.objs.size := fun b hb => by
    have hlt := sz b hb
    refine ⟨⟨?_, (f2 b hb).2⟩, by rw [h3, Heap.size_push]; exact Nat.lt_succ_of_lt hlt⟩
    rw [upd_ne (by rw [← hD]; exact Nat.ne_of_lt hlt)]
    exact (f2 b hb).1
  have st3 : tn 0 s3.heap := T.keep _ _ _ st2 fun b _ o e => by rw [h3]; exact Heap.get?_push_of_some _ e
  have I4 := block_start I3 ok hN f3
  have pg := hg s3 (upd H2 D (.lst [])) s3.heap.objs.size (cellsFrom (s3.heap.objs.size + 1) scope.names (cloFrom X.env.cells scope.names [])) fp
  have pt := ht s3 (upd H2 D (.lst [])) s3.heap.objs.size (cellsFrom (s3.heap.objs.size + 1) scope.names (cloFrom X.env.cells scope.names [])) fp
  have pe := he s3 (upd H2 D (.lst [])) s3.heap.objs.size (cellsFrom (s3.heap.objs.size + 1) scope.names (cloFrom X.env.cells scope.names [])) fp
  show codeAny _ _ (.compStart (.ListComp elt [⟨tg, iter, ifs, 0⟩] scope pos) 0 (.ref it) (.ref D) (compEnvC scope (cellsFrom (s3.heap.objs.size + 1) scope.names (cloFrom X.env.cells scope.names [])) s3.heap.objs.size X.env)) (compPost (model X.prog X.w) X.A X.xe use Qf (.ref D) s3.heap.objs.size) { s3 with heap := pushCells (s3.heap.push { cls := .type "dict", data := .dict #[] }) scope.names }
  have nfp : ∀ b ∈ fp, (upd H2 D (.lst [])) b = none := fun b hb => (f3 b hb).1.1
  generalize hce : compEnvC scope (cellsFrom (s3.heap.objs.size + 1) scope.names (cloFrom X.env.cells scope.names [])) s3.heap.objs.size X.env = ce at I4 pg pt pe ⊢
  have cL : ce.locals = s3.heap.objs.size := by subst hce; rfl
  generalize hH3 : upd H2 D (.lst []) = H3 at I3 I4 pg pt pe w0 nfp f3
  generalize hs4 : ({ s3 with heap := pushCells (s3.heap.push { cls := .type "dict", data := .dict #[] }) scope.names } : Shared) = s4 at I4 ⊢
  have st4 : tn 0 s4.heap := T.keep _ _ _ st3 fun b _ o e => by rw [← hs4]; exact pushCells_keeps _ _ _ _ (Heap.get?_push_of_some _ e)
  have stat : ∀ {σ' : St} {H' : Hp} {s' : Shared}, Inv (X.blk s3 H3 scope ce fp) [] σ' H' s' → (∀ b ∈ fp, H' b = none) → ∀ b ∈ fp, FpOk (X.blk s3 H3 scope ce fp) [] H' b := fun {σ' H' s'} I' hn b hb =>
    ⟨hn b hb, (I'.ok.exf b hb).1, I'.ok.exfs b hb, .inl hb, fun x c e => (I'.ok.exf b hb).2 x c e, fun p hp => absurd (show p ∈ ([] : List (Addr × Obj)) ++ [] from hp) (by simp)⟩
  have loop : codeAny (model X.prog X.w) X.A (.compLoop (.ListComp elt [⟨tg, iter, ifs, 0⟩] scope pos) 0 (.ref it) (.ref D) ce) (compPost (model X.prog X.w) X.A X.xe use Qf (.ref D) s3.heap.objs.size) s4 := by
    refine compLoop_any (fun n s' => ∃ i H', Inv (X.blk s3 H3 scope ce fp) [] (wipe σ (own.map (·.2))) H' s' ∧ tn i s'.heap ∧ (∀ b ∈ fp, H' b = none) ∧ W i n H') ?_ m0 ⟨0, H3, I4, st4, nfp, w0⟩
    rintro n s5 ⟨i, H5, I5, st5, n5, w5⟩
    rcases turn i n H5 w5 with ⟨stop, qq⟩ | ⟨go, Nx, hNx, step⟩
    · have td := T.done (X.blk s3 H3 scope ce fp) rfl rfl rfl hc i [] s5 _ H5 (fun _ _ => False) I5 (stat I5 n5) st5 stop
      refine thnF td fun r s6 ⟨hr, I6⟩ => ?_
      subst hr
      -- back in the def's context
      have I7 : Inv X pins σ H5 s6 := I3.call' (ch := fp) I6.os I6.base I6.hok I6.bare fun b hb => ⟨(f3 b hb).1.2.2.2.1, (f3 b hb).1.2.1, (f3 b hb).1.2.2.2.2.1, (f3 b hb).1.2.2.2.2.2⟩
      have nC : H5 s3.heap.objs.size = none := by
        have z : H5 ce.locals = none := I6.free
        rw [cL] at z
        exact z
      obtain ⟨m, hn, _⟩ := I6.loc
      have hn : s6.heap.Ns ce.locals m := hn
      rw [cL] at hn
      exact hRR D s3.heap.objs.size s6 m H5 I7 qq hn (I3.fpOk (Nat.le_refl _) nC)
    · have ti := T.item (X.blk s3 H3 scope ce fp) rfl rfl rfl hc i [] s5 _ H5 (fun _ _ => False) I5 (stat I5 n5) st5 go
      refine thnF ti fun r s6 ⟨u, hr, h6⟩ => ?_
      subst hr
      refine thnF h6 fun _ s7 ⟨x, H7, I7, r7, y7, st7, n7⟩ => ?_
      have I7' := I7.pinned (stat I7 n7) (T.obj _ _ st7)
      refine thnF (pg _ s7 _ H7 x u _ I7' r7 (step x H7 y7)) fun _ s8 ⟨σ8, H8, I8, hw8, q8⟩ => ?_
      refine thnF (pt _ s8 σ8 H8 _ I8 q8) fun b s9 ⟨H9, I9, q9⟩ => ?_
      -- the turn's end
      have fin : ∀ {s' : Shared} {H' : Hp}, Inv (X.blk s3 H3 scope ce fp) ([] ++ pinsAt fp s7.heap) σ8 H' s' → Nx H' → ∃ m, m < n ∧ ∃ i H', Inv (X.blk s3 H3 scope ce fp) [] (wipe σ (own.map (·.2))) H' s' ∧ tn i s'.heap ∧ (∀ b ∈ fp, H' b = none) ∧ W i m H' := fun {s' H'} I' nx => by
        obtain ⟨m', hm, w'⟩ := hNx H' nx
        have pin' : ∀ b ∈ fp, ∀ o, s7.heap.get? b = some o → s'.heap.get? b = some o ∧ H' b = none := fun b hb o e =>
          let z := I'.pin (b, o) (List.mem_append_right _ (List.mem_append_right _ (mem_pinsAt hb e)))
          ⟨z.1, z.2.1⟩
        have hl : (wipe σ (own.map (·.2))).length = σ8.length := by rw [← hw8, wipe_length]
        refine ⟨m', hm, i + 1, H', (I'.unpinned (pins := [])).weak hl (fun j v e => ?_), T.keep _ _ _ st7 fun b hb o e => (pin' b hb o e).1, fun b hb => ?_, w'⟩
        · rw [← hw8] at e
          exact (wipe_some e).1
        · obtain ⟨o, e, _⟩ := T.obj _ _ st7 b hb
          exact (pin' b hb o e).2
      cases b with
      | false =>
        simp only [Bool.false_eq_true, if_false] at q9 ⊢
        exact fin I9 q9
      | true =>
        simp only [if_true] at q9 ⊢
        refine thnF (pe _ s9 σ8 H9 _ I9 q9) fun z s10 ⟨yv, H10, I10, r10, acc, hD10, hz10, nx⟩ => ?_
        exact app_ok (X := X.blk s3 H3 scope ce fp) I10 hD10 hz10 r10 fun s11 I11 => fin I11 nx
  exact codeAny_compStart_list loop (T.self X.A 0 _ _ _ st4 loop)
/-- as a value -/
theorem pe_lc {elt tg iter : Expr} {ifs : List Expr} {scope : Scope} {own : List (Str × Nat)} {pos : Pos} {wi : TI} {g : TG} {tt : TT} {te : TE} (hc : X.calm = true) (hN : X.N.Nodup) (hi : PI X tg iter wi) (ok : BlkOk X.N X.env.scope scope own)
    (hg : ∀ (s : Shared) (H : Hp) (C : Addr) (cl : List (Str × Addr)) (fp : List Addr), PG (X.blk s H scope (compEnvC scope cl C X.env) fp) tg g) (ht : ∀ (s : Shared) (H : Hp) (C : Addr) (cl : List (Str × Addr)) (fp : List Addr), PTs (X.blk s H scope (compEnvC scope cl C X.env) fp) ifs tt)
    (he : ∀ (s : Shared) (H : Hp) (C : Addr) (cl : List (Str × Addr)) (fp : List Addr), PE (X.blk s H scope (compEnvC scope cl C X.env) fp) elt te) (hs : ∀ x, foldedSetIterable iter X.env x = pure x := by intro _; rfl) :
    PE X (.ListComp elt [⟨tg, iter, ifs, 0⟩] scope pos) (tLc wi g tt te (own.map (·.2))) := by
  intro pins s σ H Q I h
  rw [eval_ListComp]
  refine lc_core hc hN I hi ok hg ht he hs h fun D C s' m H' I' q hn f => ⟨m, hn, fun h'' sb => ?_⟩
  obtain ⟨f0, f1, f2, f3, f4, f5⟩ := f
  exact ⟨.ref D, H', I'.turned (t' := s'.toks) (fun b o hb e => (sb.2 b hb).trans e) f0 f1 f3 f4 f5, rfl, q⟩
/-- name = [..] on one line, the name a local -/
theorem ps_setLc {i : Nat} {y : Str} {py : Pos} {elt tg iter : Expr} {ifs : List Expr} {scope : Scope} {own : List (Str × Nat)} {pos spos : Pos} {wi : TI} {g : TG} {tt : TT} {te : TE} (hc : X.calm = true) (hN : X.N.Nodup) (hy : X.N[i]? = some y) (hyl : X.env.scope.names.lookup y = some .local)
    (hsw : swapsWith (.ListComp elt [⟨tg, iter, ifs, 0⟩] scope pos) (some (.Name y py)) spos.line X.env = pure true) (hi : PI X tg iter wi) (ok : BlkOk X.N X.env.scope scope own)
    (hg : ∀ (s : Shared) (H : Hp) (C : Addr) (cl : List (Str × Addr)) (fp : List Addr), PG (X.blk s H scope (compEnvC scope cl C X.env) fp) tg g) (ht : ∀ (s : Shared) (H : Hp) (C : Addr) (cl : List (Str × Addr)) (fp : List Addr), PTs (X.blk s H scope (compEnvC scope cl C X.env) fp) ifs tt)
    (he : ∀ (s : Shared) (H : Hp) (C : Addr) (cl : List (Str × Addr)) (fp : List Addr), PE (X.blk s H scope (compEnvC scope cl C X.env) fp) elt te) (hs : ∀ x, foldedSetIterable iter X.env x = pure x := by intro _; rfl) :
    PS X (.Assign [.Name y py] (.ListComp elt [⟨tg, iter, ifs, 0⟩] scope pos) spos) (tAsg (tLc wi g tt te (own.map (·.2))) (gName i)) := by
  intro pins s σ H D I h
  rw [exec_Assign_Name_used _ _ _ _ hsw]
  refine wpAny_bind (wpAny_standAt (wpAny_bind ?_))
  show wpAny _ X.A (do let _ ← comprehension (.ListComp elt [⟨tg, iter, ifs, 0⟩] scope pos) scope X.env (firstIterPos [⟨tg, iter, ifs, 0⟩] pos) (newList []) false (eval iter X.env) (some (assign (.Name y py) X.env))) _ _ s
  have h : tLc wi g tt te (own.map (·.2)) σ H (fun x H1 => gName i x σ H1 D.nx) := h
  refine wpAny_bind (thn (lc_core (Qf := fun _ s' => SP X pins D .next s') hc hN I hi ok hg ht he hs h fun L C s' m H' I' q hn f => ?_) fun _ s' hq => wpAny_pure (wpAny_pure hq))
  show wpAny _ _ (assign (.Name y py) X.env (.ref L)) _ _ _
  refine wpAny_assign_Name (store_ok2 (v := V.ref L) I' hN hy (.inl hyl) rfl (fun s2 I2 ⟨a, sb, ha⟩ => ?_) (.inr hyl))
  obtain ⟨f0, f1, f2, f3, f4, f5⟩ := f
  have haC : C ≠ a := by
    rcases ha with z | z
    · rw [z]; exact f1
    · exact fun e => f4 y a z e.symm
  refine ⟨m, hn.sameBut sb haC, fun h3 sb3 => ?_⟩
  exact ⟨_, H', I2.turned (t' := s2.toks) (fun b o hb e => (sb3.2 b hb).trans e) f0 f1 f3 f4 f5, q⟩
theorem sw_true {elt : Expr} {gs : List Comprehension} {scope : Scope} {pos py : Pos} {y : Str} {l : Nat} {env : Env} (hk : env.scope.kind = .function) (hy : env.scope.names.lookup y = some .local) (hl : (py.line == pos.line) = true)
    (ha : (scope.names.any fun (n, k) => n == y && (k == .local || k == .cell)) = false) : swapsWith (.ListComp elt gs scope pos) (some (.Name y py)) l env = pure true := by
  have ky : env.kindOf y = some .local := hy
  have hb : env.blockKind = .function := by unfold Env.blockKind; rw [hk]; rfl
  unfold swapsWith
  simp only [hb, ky, ha, Expr.pos, hl]
  rfl
end

/-! ### the forms one uses -/
/-- over a range: Pv by the turn and the heap (the new list at D within) -/
theorem lc_range {lo : Int} {n : Nat} {g : TG} {tt : TT} {te : TE} {vs : List Nat} {σ : St} {H1 : Hp} {D : Addr} {Qd : Hp → Prop} (Pv : Nat → Hp → Prop) (h0 : Pv 0 (upd H1 D (.lst [])))
    (hs : ∀ i H, i < n → Pv i H → g (.int (lo + i)) (wipe σ vs) H fun σ2 H2 => wipe σ2 vs = wipe σ vs ∧ tt σ2 H2 fun b H3 =>
      if b = true then te σ2 H3 fun y H4 => ∃ acc, H4 D = some (.lst acc) ∧ acc.length < sizeLine ∧ Pv (i + 1) (upd H4 D (.lst (acc ++ [y]))) else Pv (i + 1) H3) (hd : ∀ H, Pv n H → Qd H) :
    ∃ W : Nat → Nat → Hp → Prop, (∃ m, W 0 m (upd H1 D (.lst []))) ∧ ∀ i m H, W i m H →
      ((Itr lo n).stop i H ∧ Qd H) ∨ ((Itr lo n).go i H ∧ ∃ Nx : Hp → Prop, (∀ H', Nx H' → ∃ m', m' < m ∧ W (i + 1) m' H') ∧ ∀ x H', (Itr lo n).yld i H x H' → g x (wipe σ vs) H' fun σ2 H2 => wipe σ2 vs = wipe σ vs ∧ tt σ2 H2 fun b H3 =>
        if b = true then te σ2 H3 fun y H4 => ∃ acc, H4 D = some (.lst acc) ∧ acc.length < sizeLine ∧ Nx (upd H4 D (.lst (acc ++ [y]))) else Nx H3) := by
  refine ⟨fun i m H => m = n - i ∧ i ≤ n ∧ Pv i H, ⟨n, by simp, Nat.zero_le _, h0⟩, ?_⟩
  rintro i m H ⟨rfl, hi, p⟩
  by_cases hlt : i < n
  · refine .inr ⟨hlt, Pv (i + 1), fun H' p' => ⟨n - (i + 1), by omega, rfl, hlt, p'⟩, fun x H' y => ?_⟩
    obtain ⟨e, y⟩ := y
    subst e y
    exact hs i _ hlt p
  · have e : i = n := by omega
    subst e
    exact .inl ⟨Nat.le_refl _, hd H p⟩
/-- over a list that the block leaves as it is -/
theorem lc_list {K : PySem.W.Frag} {a : Addr} {xs : List V} {g : TG} {tt : TT} {te : TE} {vs : List Nat} {σ : St} {H1 : Hp} {D : Addr} {Qd : Hp → Prop} (Pv : Nat → Hp → Prop) (h0 : Pv 0 (upd H1 D (.lst []))) (hl : ∀ i H, i ≤ xs.length → Pv i H → SqL K H a xs)
    (hs : ∀ i x H, xs[i]? = some x → Pv i H → g x (wipe σ vs) H fun σ2 H2 => wipe σ2 vs = wipe σ vs ∧ tt σ2 H2 fun b H3 =>
      if b = true then te σ2 H3 fun y H4 => ∃ acc, H4 D = some (.lst acc) ∧ acc.length < sizeLine ∧ Pv (i + 1) (upd H4 D (.lst (acc ++ [y]))) else Pv (i + 1) H3) (hd : ∀ H, Pv xs.length H → Qd H) :
    ∃ W : Nat → Nat → Hp → Prop, (∃ m, W 0 m (upd H1 D (.lst []))) ∧ ∀ i m H, W i m H →
      ((Itl K a).stop i H ∧ Qd H) ∨ ((Itl K a).go i H ∧ ∃ Nx : Hp → Prop, (∀ H', Nx H' → ∃ m', m' < m ∧ W (i + 1) m' H') ∧ ∀ x H', (Itl K a).yld i H x H' → g x (wipe σ vs) H' fun σ2 H2 => wipe σ2 vs = wipe σ vs ∧ tt σ2 H2 fun b H3 =>
        if b = true then te σ2 H3 fun y H4 => ∃ acc, H4 D = some (.lst acc) ∧ acc.length < sizeLine ∧ Nx (upd H4 D (.lst (acc ++ [y]))) else Nx H3) := by
  refine ⟨fun i m H => m = xs.length - i ∧ i ≤ xs.length ∧ Pv i H, ⟨xs.length, by simp, Nat.zero_le _, h0⟩, ?_⟩
  rintro i m H ⟨rfl, hi, p⟩
  have q := hl i H hi p
  by_cases hlt : i < xs.length
  · refine .inr ⟨⟨xs, xs[i], q, by simp [hlt]⟩, Pv (i + 1), fun H' p' => ⟨xs.length - (i + 1), by omega, rfl, hlt, p'⟩, fun x H' y => ?_⟩
    obtain ⟨e, y⟩ := y
    subst e
    exact hs i x _ (y xs q) p
  · have e : i = xs.length := by omega
    subst e
    exact .inl ⟨⟨xs, q, Nat.le_refl _⟩, hd H p⟩
/-- over a tuple -/
theorem lc_tup {K : PySem.W.Frag} {a : Addr} {xs : List V} {g : TG} {tt : TT} {te : TE} {vs : List Nat} {σ : St} {H1 : Hp} {D : Addr} {Qd : Hp → Prop} (Pv : Nat → Hp → Prop) (h0 : Pv 0 (upd H1 D (.lst []))) (hl : ∀ i H, i ≤ xs.length → Pv i H → SqT K H a xs)
    (hs : ∀ i x H, xs[i]? = some x → Pv i H → g x (wipe σ vs) H fun σ2 H2 => wipe σ2 vs = wipe σ vs ∧ tt σ2 H2 fun b H3 =>
      if b = true then te σ2 H3 fun y H4 => ∃ acc, H4 D = some (.lst acc) ∧ acc.length < sizeLine ∧ Pv (i + 1) (upd H4 D (.lst (acc ++ [y]))) else Pv (i + 1) H3) (hd : ∀ H, Pv xs.length H → Qd H) :
    ∃ W : Nat → Nat → Hp → Prop, (∃ m, W 0 m (upd H1 D (.lst []))) ∧ ∀ i m H, W i m H →
      ((Itt K a).stop i H ∧ Qd H) ∨ ((Itt K a).go i H ∧ ∃ Nx : Hp → Prop, (∀ H', Nx H' → ∃ m', m' < m ∧ W (i + 1) m' H') ∧ ∀ x H', (Itt K a).yld i H x H' → g x (wipe σ vs) H' fun σ2 H2 => wipe σ2 vs = wipe σ vs ∧ tt σ2 H2 fun b H3 =>
        if b = true then te σ2 H3 fun y H4 => ∃ acc, H4 D = some (.lst acc) ∧ acc.length < sizeLine ∧ Nx (upd H4 D (.lst (acc ++ [y]))) else Nx H3) := by
  refine ⟨fun i m H => m = xs.length - i ∧ i ≤ xs.length ∧ Pv i H, ⟨xs.length, by simp, Nat.zero_le _, h0⟩, ?_⟩
  rintro i m H ⟨rfl, hi, p⟩
  have q := hl i H hi p
  by_cases hlt : i < xs.length
  · refine .inr ⟨⟨xs, xs[i], q, by simp [hlt]⟩, Pv (i + 1), fun H' p' => ⟨xs.length - (i + 1), by omega, rfl, hlt, p'⟩, fun x H' y => ?_⟩
    obtain ⟨e, y⟩ := y
    subst e
    exact hs i x _ (y xs q) p
  · have e : i = xs.length := by omega
    subst e
    exact .inl ⟨⟨xs, q, Nat.le_refl _⟩, hd H p⟩
def blkC (N : List Str) (sc scope : Scope) (own : List (Str × Nat)) : Bool :=
  (match scope.kind with | .function => true | _ => false) && (scope.names.all fun y => decide (scope.names.lookup y.1 = some y.2)) && (own.all fun p => decide (N[p.2]? = some p.1)) &&
    (scope.names.all fun y => match y.2 with
      | .free => (match sc.names.lookup y.1 with | some .cell => true | some .free => true | _ => false)
      | .local => decide (y.1 ∈ own.map (·.1)) || decide (y.1 ∉ N)
      | .cell => decide (y.1 ∈ own.map (·.1)) || decide (y.1 ∉ N)
      | _ => true)
theorem blkOk_by {N : List Str} {sc scope : Scope} {own : List (Str × Nat)} (h : blkC N sc scope own = true) : BlkOk N sc scope own := by
  unfold blkC at h
  simp only [Bool.and_eq_true, List.all_eq_true, decide_eq_true_eq] at h
  obtain ⟨⟨⟨h1, h2⟩, h3⟩, h4⟩ := h
  refine ⟨?_, h2, h3, fun y hy e => ?_, fun y hy e => ?_⟩
  · split at h1
    · assumption
    · cases h1
  · have q := h4 y hy
    simp only [e] at q
    split at q <;> first | exact .inl (by assumption) | exact .inr (by assumption) | cases q
  · have q := h4 y hy
    rcases e with e | e <;> (simp only [e, Bool.or_eq_true, decide_eq_true_eq] at q; exact q)
end L2

namespace L2
open PySem PySem.Spec PyProof.Rows


section
variable {prog : Program} {w : World} {A : Around} {R : Result → Shared → Prop} {s : Shared} {elt t0 i0 t1 i1 : Expr} {ifs0 ifs1 : List Expr} {scope : Scope} {pos : Pos} {it acc : Value} {env : Env}
end

section
variable {X : Cx}
end
end L2

namespace L2
open PySem PySem.Spec PyProof.Rows

/-! ### lists of pairs as tables -/
section
variable {κ : Type} [DecidableEq κ]
def valV (kvs : List (κ × V)) (k : κ) : Option V := (kvs.find? fun kv => decide (kv.1 = k)).map (·.2)
/-- in its place, or at the end -/
def putK (kvs : List (κ × V)) (k : κ) (v : V) : List (κ × V) :=
  if (kvs.any fun kv => decide (kv.1 = k)) = true then kvs.map (fun kv => if kv.1 = k then (kv.1, v) else kv) else kvs ++ [(k, v)]
def dropK (kvs : List (κ × V)) (k : κ) : List (κ × V) := kvs.filter fun kv => decide (kv.1 ≠ k)

theorem valV_pos {p : κ × V} {r : List (κ × V)} {k : κ} (e : p.1 = k) : valV (p :: r) k = some p.2 := by simp [valV, List.find?_cons, e]
theorem valV_neg {p : κ × V} {r : List (κ × V)} {k : κ} (e : ¬ p.1 = k) : valV (p :: r) k = valV r k := by simp [valV, List.find?_cons, e]
theorem valV_any (k : κ) : ∀ kvs : List (κ × V), (kvs.any fun kv => decide (kv.1 = k)) = (valV kvs k).isSome
  | [] => rfl
  | p :: r => by
    rw [List.any_cons]
    by_cases e : p.1 = k
    · simp only [valV_pos e, decide_eq_true e, Bool.true_or, Option.isSome_some]
    · rw [valV_neg e, decide_eq_false e, Bool.false_or]; exact valV_any k r
theorem length_putK (kvs : List (κ × V)) (k : κ) (v : V) : (putK kvs k v).length ≤ kvs.length + 1 := by
  unfold putK
  split
  · rw [List.length_map]; omega
  · rw [List.length_append, List.length_cons, List.length_nil]; omega
theorem putK_new {kvs : List (κ × V)} {k : κ} (v : V) (h : valV kvs k = none) : putK kvs k v = kvs ++ [(k, v)] := by
  unfold putK
  rw [valV_any, h]
  exact if_neg (by decide)

theorem RelO.isSome_eq {o : Option V} {u : Option Value} (r : RelO o u) : o.isSome = u.isSome := by
  cases o with
  | none => cases u with
    | none => rfl
    | some _ => exact (show False from r).elim
  | some _ => cases u with
    | none => exact (show False from r).elim
    | some _ => rfl
theorem RelO.getD {o : Option V} {u : Option Value} {d : V} {d' : Value} (r : RelO o u) (rd : RelV d d') : RelV (o.getD d) (u.getD d') := by
  cases o with
  | none => cases u with
    | none => exact rd
    | some _ => exact (show False from r).elim
  | some _ => cases u with
    | none => exact (show False from r).elim
    | some _ => exact r

/-- raw tables of the same keys -/
theorem KV.val {kvs : List (κ × V)} {vs : List (κ × Value)} (r : KV kvs vs) (k : κ) : RelO (valV kvs k) (valueAt vs k) := by
  unfold KV at r
  induction r with
  | nil => exact True.intro
  | @cons p q ps qs h t ih =>
    obtain ⟨h1, h2⟩ := h
    by_cases e : p.1 = k
    · have e' : q.1 = k := h1.symm.trans e
      have b : valueAt (q :: qs) k = some q.2 := by simp [valueAt, List.find?_cons, e']
      rw [valV_pos e, b]; exact h2
    · have e' : ¬ q.1 = k := fun z => e (h1.trans z)
      have b : valueAt (q :: qs) k = valueAt qs k := by simp [valueAt, List.find?_cons, e']
      rw [valV_neg e, b]; exact ih
theorem KV.any {kvs : List (κ × V)} {vs : List (κ × Value)} (r : KV kvs vs) (k : κ) : (kvs.any fun kv => decide (kv.1 = k)) = vs.any fun kv => decide (kv.1 = k) := by
  unfold KV at r
  induction r with
  | nil => rfl
  | cons h t ih => rw [List.any_cons, List.any_cons, ih, h.1]
theorem KV.repl {kvs : List (κ × V)} {vs : List (κ × Value)} (r : KV kvs vs) (k : κ) {y : V} {u : Value} (ry : RelV y u) :
    KV (kvs.map fun kv => if kv.1 = k then (kv.1, y) else kv) (vs.map fun kv => if kv.1 = k then (kv.1, u) else kv) := by
  unfold KV at r ⊢
  induction r with
  | nil => exact .nil
  | @cons p q ps qs h t ih =>
    rw [List.map_cons, List.map_cons]
    refine .cons ?_ ih
    obtain ⟨h1, h2⟩ := h
    by_cases e : p.1 = k
    · rw [if_pos e, if_pos (h1.symm.trans e)]; exact ⟨h1, ry⟩
    · rw [if_neg e, if_neg (fun z => e (h1.trans z))]; exact ⟨h1, h2⟩
theorem KV.put {kvs : List (κ × V)} {vs : List (κ × Value)} (r : KV kvs vs) (k : κ) {y : V} {u : Value} (ry : RelV y u) : KV (putK kvs k y) (stored vs k u) := by
  unfold putK stored
  rw [r.any k]
  by_cases e : (vs.any fun kv => decide (kv.1 = k)) = true
  · rw [if_pos e, if_pos e]; exact r.repl k ry
  · rw [if_neg e, if_neg e]; exact Paired.snoc r ⟨rfl, ry⟩
theorem KV.drop {kvs : List (κ × V)} {vs : List (κ × Value)} (r : KV kvs vs) (k : κ) : KV (dropK kvs k) (without vs k) := by
  unfold KV at r ⊢
  unfold dropK without
  induction r with
  | nil => exact .nil
  | @cons p q ps qs h t ih =>
    obtain ⟨h1, h2⟩ := h
    rw [List.filter_cons, List.filter_cons]
    by_cases e : p.1 = k
    · have a : ¬ decide (p.1 ≠ k) = true := by simp [e]
      have b : ¬ decide (q.1 ≠ k) = true := by simp [h1.symm.trans e]
      rw [if_neg a, if_neg b]; exact ih
    · have e' : ¬ q.1 = k := fun z => e (h1.trans z)
      have a : decide (p.1 ≠ k) = true := by simp [e]
      have b : decide (q.1 ≠ k) = true := by simp [e']
      rw [if_pos a, if_pos b]; exact .cons ⟨h1, h2⟩ ih
theorem KV.keys {kvs : List (κ × V)} {vs : List (κ × Value)} (r : KV kvs vs) : kvs.map (·.1) = vs.map (·.1) := by
  unfold KV at r
  induction r with
  | nil => rfl
  | cons h t ih => rw [List.map_cons, List.map_cons, ih, h.1]
theorem KV.length {kvs : List (κ × V)} {vs : List (κ × Value)} (r : KV kvs vs) : kvs.length = vs.length := Paired.length r
end


/-! ### a tracked dict, its keys ints and texts or tuples of these -/
theorem kV_is {P : Program} {w : World} {k : Key} {u : Value} (r : RelV (kV k) u) : (mixKind P w).is k u = true := by
  cases k with
  | inl i => obtain ⟨t, e⟩ := (show ∃ t, u = Value.int i t from r); subst e; exact mixKind_int P w i t
  | inr x => obtain ⟨t, e⟩ := (show ∃ t, u = Value.str x t from r); subst e; exact mixKind_str P w x t
theorem items_are {P : Program} {w : World} : ∀ {ks : List Key} {us : List Value}, Vals (ks.map kV) us → ItemsAre (mixKind P w) ks us
  | [], _, r => by rw [List.map_nil] at r; cases r; exact .nil
  | k :: ks, _, r => by
    rw [List.map_cons] at r
    cases r with
    | cons h t => exact .cons (kV_is h) (items_are t)

/-- raw entries of a dict with tuple keys -/
abbrev KT (H : Hp) : List (List Key × V) → List (List Key × Addr × Value) → Prop := Paired fun p q => p.1 = q.1 ∧ H q.2.1 = some (.tup (p.1.map kV)) ∧ RelV p.2 q.2.2
theorem KT.val {H : Hp} {kvs : List (List Key × V)} {xs : List (List Key × Addr × Value)} (r : KT H kvs xs) (k : List Key) : RelO (valV kvs k) ((atKey xs k).map (·.2)) := by
  induction r with
  | nil => exact True.intro
  | @cons p q ps qs h t ih =>
    obtain ⟨h1, _, h2⟩ := h
    by_cases e : p.1 = k
    · have e' : q.1 = k := h1.symm.trans e
      have b : atKey (q :: qs) k = some q.2 := by simp [atKey, List.find?_cons, e']
      rw [valV_pos e, b]; exact h2
    · have e' : ¬ q.1 = k := fun z => e (h1.trans z)
      have b : atKey (q :: qs) k = atKey qs k := by simp [atKey, List.find?_cons, e']
      rw [valV_neg e, b]; exact ih
theorem KT.repl {H : Hp} {kvs : List (List Key × V)} {xs : List (List Key × Addr × Value)} (r : KT H kvs xs) (k : List Key) {y : V} {u : Value} (ry : RelV y u) :
    KT H (kvs.map fun kv => if kv.1 = k then (kv.1, y) else kv) (xs.map (putAt k u)) := by
  induction r with
  | nil => exact .nil
  | @cons p q ps qs h t ih =>
    rw [List.map_cons, List.map_cons]
    refine .cons ?_ ih
    obtain ⟨h1, h2, h3⟩ := h
    unfold putAt
    by_cases e : p.1 = k
    · rw [if_pos e, if_pos (h1.symm.trans e)]; exact ⟨h1, h2, ry⟩
    · rw [if_neg e, if_neg (fun z => e (h1.trans z))]; exact ⟨h1, h2, h3⟩
theorem KT.put {H : Hp} {kvs : List (List Key × V)} {xs : List (List Key × Addr × Value)} (r : KT H kvs xs) (k : List Key) {b : Addr} {y : V} {u : Value} (hb : H b = some (.tup (k.map kV))) (ry : RelV y u) :
    KT H (putK kvs k y) (storedH xs k b u) := by
  have e : (kvs.any fun kv => decide (kv.1 = k)) = (atKey xs k).isSome := by
    rw [valV_any, (r.val k).isSome_eq, Option.isSome_map]
  unfold putK storedH
  rw [e]
  by_cases q : (atKey xs k).isSome = true
  · rw [if_pos q, if_pos q]; exact r.repl k ry
  · rw [if_neg q, if_neg q]; exact Paired.snoc r ⟨rfl, hb, ry⟩
theorem KT.keeps {H H' : Hp} {kvs : List (List Key × V)} {xs : List (List Key × Addr × Value)} (r : KT H kvs xs) (ht : ∀ b ys, H b = some (.tup ys) → H' b = some (.tup ys)) : KT H' kvs xs :=
  Paired.mapP r fun _ _ z => ⟨z.1, ht _ _ z.2.1, z.2.2⟩

section
variable {P : Program} {w : World} {H : Hp} {h : Heap} {a : Addr}
theorem rd_of {u : HO} (ok : HOk P w H h) (e : Rd H a u) : ObjOk P w H h a u := e.ok ok
theorem dk_rd {kvs : List (Key × V)} (ok : HOk P w H h) (e : Rd H a (.dK kvs)) : kvs.length ≤ sizeLine ∧ (a == sysModules) = false ∧ ∃ vs, KV kvs vs ∧ h.DictOf (mixKind P w) a vs :=
  show ObjOk P w H h a (.dK kvs) from rd_of ok e
theorem dk_of {kvs : List (Key × V)} (ok : HOk P w H h) (e : H a = some (.dK kvs)) : kvs.length ≤ sizeLine ∧ (a == sysModules) = false ∧ ∃ vs, KV kvs vs ∧ h.DictOf (mixKind P w) a vs := dk_rd ok (.inl e)
/-- a tracked tuple of ints and texts is a key -/
theorem key_of {ks : List Key} (ok : HOk P w H h) (e : H a = some (.tup (ks.map kV))) : (tupleKind (mixKind P w)).is h ks a := by
  obtain ⟨_, its, r, o, h1, h2, n, h3⟩ := (show ObjOk P w H h a (.tup (ks.map kV)) from ok a _ e)
  exact ⟨o, its.toArray, n, h1, h2, h3, by simpa using items_are r⟩
theorem dt_rd {kvs : List (List Key × V)} (ok : HOk P w H h) (e : Rd H a (.dT kvs)) : kvs.length ≤ sizeLine ∧ (a == sysModules) = false ∧
    ∃ xs, KT H kvs xs ∧ h.DictOfH (tupleKind (mixKind P w)) a xs := by
  obtain ⟨z, y, xs, r, o, es, ep, h1, h2, h3, h4, h5⟩ := (show ObjOk P w H h a (.dT kvs) from rd_of ok e)
  refine ⟨z, y, xs, r, o, es, ep, h1, h2, h3, h4, fun x hx => ?_, h5⟩
  have all : ∀ {l : List (List Key × V)} {m : List (List Key × Addr × Value)}, KT H l m → ∀ x ∈ m, (tupleKind (mixKind P w)).is h x.1 x.2.1 := by
    intro l m q
    induction q with
    | nil => intro x hx; exact nomatch hx
    | @cons p q ps qs hq t ih =>
      intro x hx
      rcases List.mem_cons.mp hx with e | hx
      · subst e
        exact key_of ok (by rw [← hq.1]; exact hq.2.1)
      · exact ih x hx
  exact all r x hx
theorem dt_of {kvs : List (List Key × V)} (ok : HOk P w H h) (e : H a = some (.dT kvs)) : kvs.length ≤ sizeLine ∧ (a == sysModules) = false ∧
    ∃ xs, KT H kvs xs ∧ h.DictOfH (tupleKind (mixKind P w)) a xs := dt_rd ok (.inl e)
end

/-- what the dict at a holds at the key y -/
def DGet (H : Hp) (a : Addr) (y : V) (r : Option V) : Prop :=
  (∃ kvs k, Rd H a (.dK kvs) ∧ y = kV k ∧ r = valV kvs k) ∨ ∃ kvs k b, Rd H a (.dT kvs) ∧ y = .ref b ∧ H b = some (.tup (k.map kV)) ∧ r = valV kvs k
/-- the heap behind a[y] = v -/
def DPut (H : Hp) (a : Addr) (y v : V) (H' : Hp) : Prop :=
  (∃ kvs k, H a = some (.dK kvs) ∧ y = kV k ∧ kvs.length < sizeLine ∧ H' = upd H a (.dK (putK kvs k v))) ∨
  ∃ kvs k b, H a = some (.dT kvs) ∧ y = .ref b ∧ H b = some (.tup (k.map kV)) ∧ kvs.length < sizeLine ∧ H' = upd H a (.dT (putK kvs k v))
theorem DGet.k {H : Hp} {a : Addr} {kvs : List (Key × V)} {k : Key} (e : H a = some (.dK kvs)) : DGet H a (kV k) (valV kvs k) := .inl ⟨kvs, k, .inl e, rfl, rfl⟩
theorem DGet.t {H : Hp} {a b : Addr} {kvs : List (List Key × V)} {k : List Key} (e : H a = some (.dT kvs)) (eb : H b = some (.tup (k.map kV))) : DGet H a (.ref b) (valV kvs k) := .inr ⟨kvs, k, b, .inl e, rfl, eb, rfl⟩
theorem DPut.k {H : Hp} {a : Addr} {kvs : List (Key × V)} {k : Key} {v : V} (e : H a = some (.dK kvs)) (hl : kvs.length < sizeLine) : DPut H a (kV k) v (upd H a (.dK (putK kvs k v))) := .inl ⟨kvs, k, e, rfl, hl, rfl⟩
theorem DPut.t {H : Hp} {a b : Addr} {kvs : List (List Key × V)} {k : List Key} {v : V} (e : H a = some (.dT kvs)) (eb : H b = some (.tup (k.map kV))) (hl : kvs.length < sizeLine) :
    DPut H a (.ref b) v (upd H a (.dT (putK kvs k v))) := .inr ⟨kvs, k, b, e, rfl, eb, hl, rfl⟩


section
variable {X : Cx} {pins : List (Addr × Obj)} {σ : St} {H : Hp} {s : Shared} {a : Addr} {y v : V} {u r : Value} {o : Option V} {A : Around} {E : Value → Shared → Prop}

theorem Inv.big (I : Inv X pins σ H s) : sysModules < s.heap.objs.size := by
  have h : mainGlobals < s.heap.objs.size := (I.mod.glob.keeps I.bk).lt
  exact Nat.lt_trans (by decide) h

/-- a dict's object is replaced -/
theorem d_write {h' : Heap} {t' : Nat} {ob : HO} (I : Inv X pins σ H s) (mu : Mut (H a)) (hs : Heap.SameBut a s.heap h') (he : ∃ q, h'.get? a = some q) (new : ObjOk X.prog X.w (upd H a ob) h' a ob) :
    Inv X pins σ (upd H a ob) { s with heap := h', toks := t' } :=
  I.write (x := a) (e := a) mu (.inl rfl) (fun b q hb z => (hs.2 b hb).trans z) he new
theorem dk_new {P : Program} {w : World} {H' : Hp} {h' : Heap} {kvs : List (Key × V)} {vs : List (Key × Value)} (z : kvs.length ≤ sizeLine) (hd : (a == sysModules) = false) (rel : KV kvs vs) (dd : h'.DictOf (mixKind P w) a vs) :
    ObjOk P w H' h' a (.dK kvs) := ⟨z, hd, vs, rel, dd⟩
/-- d[y] = v -/
theorem d_setItem {H' : Hp} {Q : Unit → Shared → Prop} (hu : A.units + 1 < cLine) (I : Inv X pins σ H s) (g : DPut H a y v H') (ry : RelV y u) (rv : RelV v r) (h : ∀ s', Inv X pins σ H' s' → Q () s') :
    wpAny (model X.prog X.w) A (setItem (.ref a) u r) Q E s := by
  rcases g with ⟨kvs, k, e, ey, l, eH⟩ | ⟨kvs, k, b, e, ey, eb, l, eH⟩
  · subst ey eH
    obtain ⟨z, hd, vs, rel, dd⟩ := dk_of I.hok e
    have hz : vs.length ≤ sizeLine := by rw [← rel.length]; exact z
    have hl : (putK kvs k v).length ≤ sizeLine := by have := length_putK kvs k v; omega
    refine wpAny_setItem_pairs (hsz := hz) (kV_is ry) dd fun h' dd' hs => h _ ?_
    have he : ∃ q, h'.get? a = some q := let ⟨q, _, _, hq, _⟩ := dd'; ⟨q, hq⟩
    exact d_write I (by rw [e]; exact True.intro) hs he (dk_new hl hd (rel.put k rv) dd')
  · subst ey eH
    cases (show u = Value.ref b from ry)
    obtain ⟨z, hd, xs, rel, dd⟩ := dt_of I.hok e
    have hz : xs.length ≤ sizeLine := by rw [← Paired.length rel]; exact z
    have hl : (putK kvs k v).length ≤ sizeLine := by have := length_putK kvs k v; omega
    refine wpAny_setItem_heap (hsz := hz) (tupleKind_room_in1 hu) (key_of I.hok eb) dd fun h' dd' hs => h _ ?_
    obtain ⟨q, es, ep, hq, h2, h3, h4, _, h5⟩ := dd'
    refine d_write I (by rw [e]; exact True.intro) hs ⟨q, hq⟩ ⟨hl, hd, _, (rel.put k eb rv).keeps fun c ys ec => ?_, q, es, ep, hq, h2, h3, h4, h5⟩
    rw [upd_ne (ne_of ec e (fun z => nomatch z))]
    exact ec
end

section
variable {X : Cx} {pins : List (Addr × Obj)} {σ : St} {H : Hp} {s : Shared} {a : Addr} {kvs : List (Key × V)} {k : Key} {u : Value} {A : Around} {E : Value → Shared → Prop}
end


/-! ### readings and rules -/


/-- d[y] = v -/
def sDPut (td ty tv : TE) : TS := fun D σ H => tv σ H fun v H1 => td σ H1 fun x H2 => ty σ H2 fun y H3 => ∃ a H4, x = .ref a ∧ DPut H3 a y v H4 ∧ D.nx σ H4

section
variable {X : Cx} {o i e value : Expr} {pos pos' tpos : Pos} {td ty tv : TE}
theorem ps_dput (hu : X.A.units + 1 < cLine) (ho : PE X o td) (hi : PE X i ty) (hv : PE X value tv) (hs : swapsWith value (some (.Subscript o i pos')) pos.line X.env = pure false) :
    PS X (.Assign [.Subscript o i pos'] value pos) (sDPut td ty tv) := by
  intro pins s σ H D I h
  refine wpAny_Assign_Subscript (thn (hv pins s σ H _ I h) fun r s1 ⟨v, H1, I1, rv, q1⟩ => thn (ho pins s1 σ H1 _ I1 q1) fun u s2 ⟨x, H2, I2, rx, q2⟩ => thn (hi pins s2 σ H2 _ I2 q2) fun iv s3 ⟨y, H3, I3, ry, a, H4, ex, g, q3⟩ => ?_) hs
  subst ex
  obtain rfl : u = Value.ref a := rx
  exact d_setItem hu I3 g ry rv fun s4 I4 => ⟨σ, H4, I4, q3⟩
end


/-! ### displays -/
theorem dk_empty {P : Program} {w : World} {H : Hp} (h : Heap) (hb : sysModules < h.objs.size) : ObjOk P w H (h.push { cls := .type "dict", data := .dict #[] }) h.objs.size (.dK []) :=
  ⟨Nat.zero_le _, beq_eq_false_iff_ne.mpr (Ne.symm (Nat.ne_of_lt hb)), [], .nil, Heap.DictOf.new h⟩
theorem dt_empty {P : Program} {w : World} {H : Hp} (h : Heap) (hb : sysModules < h.objs.size) : ObjOk P w H (h.push { cls := .type "dict", data := .dict #[] }) h.objs.size (.dT []) :=
  ⟨Nat.zero_le _, beq_eq_false_iff_ne.mpr (Ne.symm (Nat.ne_of_lt hb)), [], .nil, _, #[], 0, Heap.get?_push_size _ rfl, ⟨rfl, rfl, rfl⟩, rfl, rfl, List.nodup_nil⟩
/-- {}, to be a dict of the kind that is wanted -/
def tDNewK : TE := fun _ H Q => ∀ p, H p = none → Q (.ref p) (upd H p (.dK []))
section
variable {X : Cx} {pos : Pos}
theorem pe_dnewK : PE X (.Dict [] [] pos) tDNewK := fun pins s σ H Q I h =>
  wpAny_Dict_empty ⟨.ref s.heap.objs.size, _, I.laid (a := s.heap.objs.size) (o := .dK []) (t' := s.toks) (fun _ _ q => Heap.get?_push_of_some _ q) (Nat.le_refl _) (dk_empty s.heap I.big), rfl, h _ (I.hok.fresh (Nat.le_refl _))⟩
end

/-- the pairs of a display, from the left -/
def tPairs : List (TE × TE) → St → Hp → (List (V × V) → Hp → Prop) → Prop
  | [], _, H, Q => Q [] H
  | (tk, tv) :: r, σ, H, Q => tk σ H fun x H1 => tv σ H1 fun y H2 => tPairs r σ H2 fun ps H3 => Q ((x, y) :: ps) H3
abbrev VV : List (V × V) → List (Value × Value) → Prop := Paired fun p q => RelV p.1 q.1 ∧ RelV p.2 q.2
def PPs (X : Cx) (pos : Pos) (keys : List (Option Expr)) (values : List Expr) (trs : List (TE × TE)) : Prop :=
  ∀ (pins : List (Addr × Obj)) (s : Shared) (σ : St) (H : Hp) (Q : List (V × V) → Hp → Prop), Inv X pins σ H s → tPairs trs σ H Q →
    wpAny (model X.prog X.w) X.A (evalPairs (pairTrees keys values X.env pos)) (fun vs s' => ∃ ps H', Inv X pins σ H' s' ∧ VV ps vs ∧ Q ps H') X.xe s
theorem pps_nil {X : Cx} {pos : Pos} : PPs X pos [] [] [] := fun pins s σ H Q I h => pairTrees_nil_walk ⟨[], H, I, .nil, h⟩
theorem pps_cons {X : Cx} {pos : Pos} {k v : Expr} {ks : List (Option Expr)} {vs : List Expr} {tk tv : TE} {trs : List (TE × TE)} (hk : PE X k tk) (hv : PE X v tv) (hr : PPs X pos ks vs trs) :
    PPs X pos (some k :: ks) (v :: vs) ((tk, tv) :: trs) := fun pins s σ H Q I h =>
  pairTrees_cons_walk (thn (hk pins s σ H _ I h) fun u s1 ⟨x, H1, I1, rx, q1⟩ => thn (hv pins s1 σ H1 _ I1 q1) fun w2 s2 ⟨y, H2, I2, ry, q2⟩ =>
    thn (hr pins s2 σ H2 _ I2 q2) fun ws s3 ⟨ps, H3, I3, rel, q3⟩ => ⟨(x, y) :: ps, H3, I3, .cons ⟨rx, ry⟩ rel, q3⟩)

def mergeK (kvs more : List (Key × V)) : List (Key × V) := more.foldl (fun acc kv => putK acc kv.1 kv.2) kvs
theorem KV.merge : ∀ {more : List (Key × V)} {rs : List (Key × Value)} {kvs : List (Key × V)} {vs : List (Key × Value)}, KV more rs → KV kvs vs → KV (mergeK kvs more) (merged vs rs) := by
  intro more rs kvs vs r
  unfold KV at r
  induction r generalizing kvs vs with
  | nil => intro q; exact q
  | @cons p q ps qs h t ih =>
    intro r0
    have e : KV (putK kvs p.1 p.2) (stored vs q.1 q.2) := by
      have := r0.put p.1 h.2
      rw [← h.1]; exact this
    exact ih e
theorem length_mergeK : ∀ (more kvs : List (Key × V)), (mergeK kvs more).length ≤ kvs.length + more.length
  | [], kvs => by show kvs.length ≤ kvs.length + 0; omega
  | p :: r, kvs => by
    have h1 := length_mergeK r (putK kvs p.1 p.2)
    have h2 := length_putK kvs p.1 p.2
    show (mergeK (putK kvs p.1 p.2) r).length ≤ _
    rw [List.length_cons]; omega
theorem carries_of {P : Program} {w : World} : ∀ {kvs : List (Key × V)} {ws : List (Value × Value)}, VV (kvs.map fun kv => (kV kv.1, kv.2)) ws → ∃ rs, Carries (mixKind P w) ws rs ∧ KV kvs rs
  | [], _, r => by rw [List.map_nil] at r; cases r; exact ⟨[], True.intro, .nil⟩
  | p :: kvs, _, r => by
    rw [List.map_cons] at r
    cases r with
    | @cons a b as bs h t =>
      obtain ⟨rs, c, q⟩ := carries_of (P := P) (w := w) t
      obtain ⟨b1, b2⟩ := b
      exact ⟨(p.1, b2) :: rs, ⟨kV_is h.1, rfl, c⟩, .cons ⟨rfl, h.2⟩ q⟩
/-- {k: v, ..} with keys ints and texts; the new dict stands empty while the pairs are made -/
def tDisp (trs : List (TE × TE)) : TE := fun σ H Q => ∀ p, H p = none → tPairs trs σ (upd H p (.dK [])) fun ps H2 => H2 p = some (.dK []) ∧ ∃ kvs : List (Key × V), ps = kvs.map (fun kv => (kV kv.1, kv.2)) ∧ kvs.length ≤ 15 ∧ Q (.ref p) (upd H2 p (.dK (mergeK [] kvs)))
theorem pe_disp {X : Cx} {pos : Pos} {keys : List (Option Expr)} {values : List Expr} {trs : List (TE × TE)} (h : PPs X pos keys values trs) (hall : keys.all (·.isSome) = true) (hl : keys.length = values.length) (h0 : keys ≠ [])
    (h15 : keys.length ≤ 15) : PE X (.Dict keys values pos) (tDisp trs) := by
  intro pins s σ H Q I q
  have hn := I.hok.fresh (Nat.le_refl s.heap.objs.size)
  have I1 := I.laid (a := s.heap.objs.size) (o := .dK []) (h' := s.heap.push { cls := .type "dict", data := .dict #[] }) (t' := s.toks) (fun _ _ q => Heap.get?_push_of_some _ q) (Nat.le_refl _) (dk_empty s.heap I.big)
  refine wpAny_Dict_walk (knd := mixKind X.prog X.w) hall hl h0 h15 (thn (h pins _ σ _ _ I1 (q _ hn)) fun ws s2 ⟨ps, H2, I2, rel, e, kvs, ep, lk, q2⟩ => ?_)
  subst ep
  obtain ⟨rs, c, rk⟩ := carries_of (P := X.prog) (w := X.w) rel
  obtain ⟨z, hd, vs0, r0, dd⟩ := dk_of I2.hok e
  cases r0
  refine ⟨rs, c, dd, fun h' dd' hs => ⟨.ref s.heap.objs.size, _, ?_, rfl, q2⟩⟩
  have hz : (mergeK [] kvs).length ≤ sizeLine := by
    have h1 := length_mergeK kvs []
    rw [List.length_nil] at h1
    rw [sizeLine_eq]; omega
  have he : ∃ q, h'.get? s.heap.objs.size = some q := let ⟨q, _, _, hq, _⟩ := dd'; ⟨q, hq⟩
  exact d_write I2 (by rw [e]; exact True.intro) hs he (dk_new hz hd (rk.merge .nil) dd')


/-! ### methods -/
/-- a method call o.m(e) of a built-in, with one argument: what must be seen of the text -/
structure M1 (X : Cx) (o : Expr) (m : Str) (apos : Pos) (e : Expr) (cpos : Pos) : Prop where
  base : attributeBase o m X.env (eval o X.env) = eval o X.env
  few : ((backTo cpos (starEach [e] X.env)).all (fun x => !x.1) && (backToKw cpos (keywordEach [] X.env)).all (fun x => x.1.isSome)
    && decide (([e] : List Expr).length + ([] : List Keyword).length + (if ([] : List Keyword).isEmpty then 0 else 1) < 30)) = true
  line : (apos.endLine == cpos.line) = true
  trees : backTo cpos (starEach [e] X.env) = [(false, eval e X.env)]
structure M2 (X : Cx) (o : Expr) (m : Str) (apos : Pos) (e f : Expr) (cpos : Pos) : Prop where
  base : attributeBase o m X.env (eval o X.env) = eval o X.env
  few : ((backTo cpos (starEach [e, f] X.env)).all (fun x => !x.1) && (backToKw cpos (keywordEach [] X.env)).all (fun x => x.1.isSome)
    && decide (([e, f] : List Expr).length + ([] : List Keyword).length + (if ([] : List Keyword).isEmpty then 0 else 1) < 30)) = true
  line : (apos.endLine == cpos.line) = true
  trees : backTo cpos (starEach [e, f] X.env) = [(false, eval e X.env), (false, eval f X.env)]


section
variable {X : Cx} {pins : List (Addr × Obj)} {σ : St} {H : Hp} {s : Shared} {a : Addr} {y d : V} {u r : Value} {o : Option V} {A : Around} {E : Value → Shared → Prop}
end

section
variable {X : Cx} {o e f : Expr} {apos cpos : Pos} {td ty tx : TE}
end

/-! ### dict(d): a copy -/
section
variable {X : Cx} {pins : List (Addr × Obj)} {σ : St} {H : Hp} {s : Shared} {a : Addr} {kvs : List (Key × V)} {A : Around} {E : Value → Shared → Prop}
end


section
variable {X : Cx} {pins : List (Addr × Obj)} {σ : St} {H : Hp} {s : Shared} {a : Addr} {y : V} {u : Value} {A : Around} {E : Value → Shared → Prop}
end
end L2

namespace L2
open PySem PySem.Spec PyProof.Rows


section
variable {prog : Program} {w : World} {A : Around} {E : Value → Shared → Prop}


end

section
variable {X : Cx}
end
end L2

namespace L2
open PySem PySem.Spec PyProof.Rows


section
variable {X : Cx} {pins : List (Addr × Obj)} {σ : St} {H : Hp} {s : Shared} {h' : Heap}
/-- .. and one new object is laid -/
theorem Inv.turnedNew {t' : Nat} {ch : List Addr} {T : Addr} {ob : HO} (I : Inv X pins σ H s) (k : ∀ b o, b ∉ ch → s.heap.get? b = some o → h'.get? b = some o) (hf : ∀ b ∈ ch, FpOk X pins H b) (hT : s.heap.objs.size ≤ T)
    (new : ObjOk X.prog X.w (upd H T ob) h' T ob) : Inv X pins σ (upd H T ob) { s with heap := h', toks := t' } := by
  have hn : H T = none := I.hok.fresh hT
  have nit : ∀ b u, H b = some u → b ∉ ch := fun b u e z => by
    have q := (hf b z).1
    rw [q] at e; cases e
  refine I.step (g' := s.gens) (d' := s.drawn) (ch := ch) (fun b hb => ⟨(hf b hb).2.2.2.1, (hf b hb).2.1, (hf b hb).2.2.2.2.1, (hf b hb).2.2.2.2.2⟩) (fun b o _ _ hc e _ => k b o hc e) (fun b o _ _ hc e _ => ⟨o.slots, k b o hc e⟩)
    (fun b o _ e n => ?_) (fun b o hc e => ⟨o, k b o hc e⟩) (fun b xs e => ?_) (fun b o u e => ?_) (fun b ps e => ⟨#[], ?_⟩) (fun m hm => ?_) (fun b u e => ?_) I.bare
  · rw [upd_ne (Nat.ne_of_lt (Nat.lt_of_lt_of_le (Heap.lt_size e) hT))]; exact n
  · rw [upd_ne (ne_of_none e hn)]; exact e
  · rw [upd_ne (ne_of_none e hn)]; exact e
  · rw [upd_ne (ne_of_none e hn), e]; simp
  · obtain ⟨o, es, ep, ho, r⟩ := hm
    exact ⟨o, es, ep, k _ o (fun z => (hf _ z).2.1 rfl) ho, r⟩
  · by_cases hb : b = T
    · subst hb
      rw [upd_same] at e
      cases e
      exact new
    · rw [upd_ne hb] at e
      refine (I.hok b u e).stay (fun c v hc q => k c v ?_ q) (fun c q => by rw [upd_ne (ne_of_none q hn)]; exact q) fun c xs q => by rw [upd_ne (ne_of_none q hn)]; exact q
      rcases hc with z | z
      · rw [z]; exact nit b u e
      · exact nit c _ z

/-! ### locking a thing while a statement runs -/
theorem Inv.unlock {d : Addr} {od : Obj} {u : HO} (I : Inv X pins σ H s) (h : H d = some (.frz od u)) (hn : ∀ o' u', X.H_0 d ≠ some (.frz o' u')) : Inv X pins σ (upd H d u) s := by
  have neH : ∀ b o, H b = some o → (∀ o' u', o ≠ .frz o' u') → b ≠ d := fun b o e hne z => by
    rw [z, h] at e
    cases e
    exact hne _ _ rfl
  have neN : ∀ b, H b = none → b ≠ d := fun b e z => by rw [z, h] at e; cases e
  refine ⟨I.ok, I.os, I.bare, ⟨I.base.keep, I.base.slot, fun b o e n hx => ?_, I.base.there, fun b xs e => ?_, fun b o x e => ?_, fun b ps e => ?_⟩, I.loc, I.cell, ?_, fun x c e => ?_, fun p hp => ?_, fun b o e => ?_, I.len⟩
  · rw [upd_ne (neN b (I.base.free b o e n hx))]; exact I.base.free b o e n hx
  · have q := I.base.tups b xs e
    rw [upd_ne (neH b _ q (fun _ _ z => nomatch z))]; exact q
  · have q := I.base.frzs b o x e
    rw [upd_ne (fun z => by rw [z] at e; exact hn _ _ e)]; exact q
  · obtain ⟨m, q⟩ := I.base.tbls b ps e
    exact ⟨m, by rw [upd_ne (neH b _ q (fun _ _ z => nomatch z))]; exact q⟩
  · rw [upd_ne (neN _ I.free)]; exact I.free
  · rw [upd_ne (neN c (I.freeC x c e))]; exact I.freeC x c e
  · obtain ⟨e, n, r⟩ := I.pin p hp
    exact ⟨e, by rw [upd_ne (neN _ n)]; exact n, r⟩
  · by_cases hb : b = d
    · rw [hb, upd_same] at e
      cases e
      rw [hb]
      obtain ⟨_, x⟩ := I.hok d _ h
      exact x.stay (fun c v _ q => q) (fun c q => by rw [upd_ne (neH c _ q (fun _ _ z => nomatch z))]; exact q) fun c xs q => by rw [upd_ne (neH c _ q (fun _ _ z => nomatch z))]; exact q
    · rw [upd_ne hb] at e
      exact (I.hok b o e).stay (fun c v _ q => q) (fun c q => by rw [upd_ne (neH c _ q (fun _ _ z => nomatch z))]; exact q) fun c xs q => by rw [upd_ne (neH c _ q (fun _ _ z => nomatch z))]; exact q
end
section
variable {X : Cx}

/-! ### one iterator just laid -/
theorem pi_one {tg : Expr} {pins : List (Addr × Obj)} {σ : St} {H : Hp} {s : Shared} {R : It → Hp → Prop} {J : It} {tn : Nat → Heap → Prop} {tk : Nat} (I : Inv X pins σ H s) (o : Obj)
    (T : Turn X.prog X.w X.K tg J [s.heap.objs.size] s.heap.objs.size tn) (st : tn 0 (s.heap.push o)) (q : R J H) : PIE X pins σ tg R (.ref s.heap.objs.size) { s with heap := s.heap.push o, toks := tk } := by
  refine ⟨s.heap.objs.size, [s.heap.objs.size], tn, J, H, rfl, I.kept fun b ob e => Heap.get?_push_of_some _ e, T, st, fun b hb => ?_, q⟩
  have e : b = s.heap.objs.size := by simpa using hb
  subst e
  exact I.fpOk (Nat.le_refl _) (I.hok.fresh (Nat.le_refl _))
end

/-! ### range with a step -/
/-- lo, lo + c, .. (n of them) -/
def Itc (lo c : Int) (n : Nat) : It := ⟨fun i _ => i < n, fun i H x H' => H' = H ∧ x = .int (lo + (i : Nat) * c), fun i _ => n ≤ i⟩
theorem turn_rangeC {P : Program} {w : World} {K : PySem.W.Frag} {tg : Expr} (it : Addr) (lo c : Int) (n : Nat) : Turn P w K tg (Itc lo c n) [it] it (fun i h => IsRangeIter h it (lo + (i : Nat) * c) ((n : Int) - (i : Nat)) c) where
  mem := by simp
  obj := fun i h st b hb => by
    have e : b = it := by simpa using hb
    subst e
    exact ⟨_, st, fun v z => nomatch z⟩
  keep := fun i h h' st k => k it (by simp) _ st
  item := by
    intro X hP hw hK hc i pins s σ H E I hf st hg
    subst hP hw hK
    obtain ⟨f0, f1, f2, f3, f4, f5⟩ := hf it (by simp)
    have W := Walks.range (prog := X.prog) (w := X.w) (I.ok.hd hc) it lo c n
    refine W.item i s _ _ hg st fun v h' tk hv st' kk => ?_
    obtain ⟨t, rfl⟩ := hv
    have I1 : Inv X pins σ H { s with heap := h', toks := tk } := I.turned (fun b o hb e => kk b o (by simpa using hb) e) f0 f1 f3 f4 f5
    exact ⟨_, rfl, go_of (s := { s with heap := h', toks := tk }) (n := "range_iterator") st' rfl rfl (by decide) ⟨.int (lo + (i : Nat) * c), H, I1, ⟨t, rfl⟩, ⟨rfl, rfl⟩, st', fun b hb => (hf b hb).1⟩⟩
  done := by
    intro X hP hw hK hc i pins s σ H E I hf st hg
    subst hP hw hK
    obtain ⟨f0, f1, f2, f3, f4, f5⟩ := hf it (by simp)
    exact wpAny_pyNext_range_end (I.ok.hd hc) st (by have : n ≤ i := hg; omega) fun h' eb => ⟨rfl, I.turned (t' := s.toks) (fun b o hb e => eb b o hb e) f0 f1 f3 f4 f5⟩
  self := fun A i s Q E st h => wpAny_pyIter_rangeiter st h
/-- range(i, j, c): small bounds, n items -/
def RgC (i j c : Int) (n : Nat) : Prop := c ≠ 0 ∧ c.natAbs < 1073741824 ∧ Builtin.Range.small i j c = true ∧ Builtin.Range.rangeSize i j c = n
theorem RgC.neg {i j : Int} (ha : -(2 ^ 62) ≤ i) (ha' : i < 2 ^ 62) (hb : -(2 ^ 62) ≤ j) (hb' : j < 2 ^ 62) : RgC i j (-1) (i - j).toNat :=
  ⟨by decide, by decide, PySem.W.small_down ha ha' hb hb', PySem.W.rangeSize_downNat i j⟩
def iRng3 (ta : TA) : TI := fun σ H R => ta σ H fun vs H1 => ∃ (i j c : Int) (n : Nat), vs = [.int i, .int j, .int c] ∧ RgC i j c n ∧ R (Itc i c n) H1
section
variable {X : Cx} {tg : Expr}
theorem pi_range3 {a b c : Expr} {ta : TA} {p pos : Pos} (hg : Gl X "range") (hm : X.mg "range" = none) (ha : PA X [a, b, c] ta)
    (hs : starEach [a, b, c] X.env = (false, eval a X.env) :: starEach [b, c] X.env := by rfl) (hpl : (backTo pos (starEach [b, c] X.env)).any (·.1) = false := by rfl) :
    PI X tg (.Call (.Name "range" p) [a, b, c] [] pos) (iRng3 ta) := by
  intro pins s σ H R I h
  refine Call_ (ld_blt I hg hm boot_range (PyProof.Rows.callWith_type1 (thn (ha pos pins s σ H _ I h) fun us s1 ⟨vs, H1, I1, r1, q1⟩ => ?_) hs hpl))
  obtain ⟨i, j, k, n, e, ⟨c0, c1, c2, c3⟩, q⟩ := q1
  subst e
  cases r1 with
  | cons r rr =>
    cases rr with
    | cons r' rr =>
      cases rr with
      | cons r'' rr =>
        cases rr
        obtain ⟨t, rfl⟩ := r
        obtain ⟨t', rfl⟩ := r'
        obtain ⟨t'', rfl⟩ := r''
        refine call_range_3 c0 ?_ (.inl (PyProof.noPylong_small c1))
        refine wpAny_pyIter_range (IsRange.new ..) c2 ?_
        have I2 : Inv X pins σ H1 { s1 with heap := s1.heap.push { cls := .type "range", data := .fields #[.int i t, .int j t', .int k t''] } } := I1.kept (t' := s1.toks) fun b o e => Heap.get?_push_of_some _ e
        refine pi_one (tk := s1.toks) I2 _ (turn_rangeC _ i k n) ?_ q
        have e1 : i + ((0 : Nat) : Int) * k = i := by simp
        have e2 : (n : Int) - ((0 : Nat) : Int) = Builtin.Range.rangeSize i j k := by rw [c3]; simp
        show IsRangeIter _ _ (i + ((0 : Nat) : Int) * k) ((n : Int) - ((0 : Nat) : Int)) k
        rw [e1, e2]
        exact Heap.get?_push_size _ rfl
end
/-- the turns of a step range, for the for loop -/
theorem for_rangeC {lo c : Int} {n : Nat} {g : TG} {tb : TS} {D : Ends} {σ : St} {H : Hp} (Pv : Nat → St → Hp → Prop) (h0 : Pv 0 σ H)
    (hs : ∀ i σ H, i < n → Pv i σ H → g (.int (lo + (i : Nat) * c)) σ H fun σ2 H2 => tb { D with nx := Pv (i + 1), ct := Pv (i + 1), bk := D.nx } σ2 H2) (hd : ∀ σ H, Pv n σ H → D.nx σ H) :
    ∃ W : Nat → Nat → St → Hp → Prop, (∃ m, W 0 m σ H) ∧ ∀ i m σ H, W i m σ H →
      ((Itc lo c n).stop i H ∧ D.nx σ H) ∨ ((Itc lo c n).go i H ∧ ∃ N : St → Hp → Prop, (∀ σ' H', N σ' H' → ∃ m', m' < m ∧ W (i + 1) m' σ' H') ∧ ∀ x H', (Itc lo c n).yld i H x H' → g x σ H' fun σ2 H2 => tb { D with nx := N, ct := N, bk := D.nx } σ2 H2) := by
  refine ⟨fun i m σ H => m = n - i ∧ i ≤ n ∧ Pv i σ H, ⟨n, by simp, Nat.zero_le _, h0⟩, ?_⟩
  rintro i m σ H ⟨rfl, hi, p⟩
  by_cases hlt : i < n
  · refine .inr ⟨hlt, Pv (i + 1), fun σ' H' p' => ⟨n - (i + 1), by omega, rfl, hlt, p'⟩, fun x H' y => ?_⟩
    obtain ⟨e, y⟩ := y
    subst e y
    exact hs i σ _ hlt p
  · have e : i = n := by omega
    subst e
    exact .inl ⟨Nat.le_refl _, hd σ H p⟩

/-! ### reversed(list) -/
section
variable {X : Cx} {tg : Expr}
end

/-! ### a str -/
def Its (x : Str) : It := ⟨fun i _ => i < x.cps.size, fun i H v H' => H' = H ∧ ∃ c, x.cps[i]? = some c ∧ v = .str ⟨#[c]⟩, fun i _ => x.cps.size ≤ i⟩
theorem turn_str {P : Program} {w : World} {K : PySem.W.Frag} {tg : Expr} (it : Addr) (x : Str) (t : Tok) (ty : String) (hty : ty = "str_ascii_iterator" ∨ ty = "str_iterator") :
    Turn P w K tg (Its x) [it] it (fun i h => h.IsStrIter it ty x t i) where
  mem := by simp
  obj := fun i h st b hb => by
    have e : b = it := by simpa using hb
    subst e
    obtain ⟨o, e, c, d⟩ := st
    exact ⟨o, e, fun v z => by rw [d] at z; cases z⟩
  keep := fun i h h' st k => let ⟨o, ho, r⟩ := st; ⟨o, k it (by simp) o ho, r⟩
  item := by
    intro X hP hw hK hc i pins s σ H E I hf st hg
    subst hP hw hK
    obtain ⟨f0, f1, f2, f3, f4, f5⟩ := hf it (by simp)
    have W : Walks X.prog X.w X.A it [it] [it] x.cps.size (SignAt x) (fun i h => h.IsStrIter it ty x t i) := by
      rcases hty with e | e
      · rw [e]; exact Walks.strAscii (I.ok.hd hc) it x t
      · rw [e]; exact Walks.strWide (I.ok.hd hc) it x t
    have hno : ["enumerate", "zip", "dict_itemiterator", "dict_reverseitemiterator", "odict_iterator", "itertools.zip_longest", "itertools.pairwise"].contains ty = false := by
      rcases hty with e | e
      · rw [e]; decide
      · rw [e]; decide
    refine W.item i s _ _ hg st fun v h' tk hv st' kk => ?_
    obtain ⟨c, u, hcx, rfl⟩ := hv
    have I1 : Inv X pins σ H { s with heap := h', toks := tk } := I.turned (fun b o hb e => kk b o (by simpa using hb) e) f0 f1 f3 f4 f5
    obtain ⟨oi, e, cc, dd⟩ := id st'
    exact ⟨_, rfl, go_of (s := { s with heap := h', toks := tk }) e cc dd hno ⟨.str ⟨#[c]⟩, H, I1, ⟨u, rfl⟩, ⟨rfl, c, hcx, rfl⟩, st', fun b hb => (hf b hb).1⟩⟩
  done := by
    intro X hP hw hK hc i pins s σ H E I hf st hg
    subst hP hw hK
    obtain ⟨f0, f1, f2, f3, f4, f5⟩ := hf it (by simp)
    have hx : x.cps[i]? = none := Array.getElem?_eq_none hg
    rcases hty with e | e
    · rw [e] at st
      exact wpAny_pyNext_ascii_end (I.ok.hd hc) st hx fun h' eb => ⟨rfl, I.turned (t' := s.toks) (fun b o hb e => eb b o hb e) f0 f1 f3 f4 f5⟩
    · rw [e] at st
      exact wpAny_pyNext_wide_end (I.ok.hd hc) st hx fun h' eb => ⟨rfl, I.turned (t' := s.toks) (fun b o hb e => eb b o hb e) f0 f1 f3 f4 f5⟩
  self := fun A i s Q E st h => by
    rcases hty with e | e
    · rw [e] at st; exact wpAny_pyIter_striter_ascii st h
    · rw [e] at st; exact wpAny_pyIter_striter_wide st h
def iStr (te : TE) : TI := fun σ H R => te σ H fun v H1 => ∃ x, v = .str x ∧ R (Its x) H1
theorem pi_str {X : Cx} {tg e : Expr} {te : TE} (he : PE X e te) : PI X tg e (iStr te) := by
  intro pins s σ H R I h
  refine thn (he pins s σ H _ I h) fun v s1 ⟨y, H1, I1, r1, x, ex, q⟩ => ?_
  subst ex
  obtain ⟨t, rfl⟩ := r1
  cases ha : x.cps.all (· < 128)
  · exact wpAny_pyIter_wide ha (pi_one (tk := s1.toks) I1 _ (turn_str _ x t "str_iterator" (.inr rfl)) ⟨_, Heap.get?_push_size _ rfl, rfl, rfl⟩ q)
  · exact wpAny_pyIter_ascii ha (pi_one (tk := s1.toks) I1 _ (turn_str _ x t "str_ascii_iterator" (.inl rfl)) ⟨_, Heap.get?_push_size _ rfl, rfl, rfl⟩ q)

/-! ### a dict's keys: any dict's entries -/
section
variable {prog : Program} {w : World} {A : Around} {E : Value → Shared → Prop} {s : Shared}
theorem iter_keys {d : Addr} {o : Obj} {es : Array DictEntry} {ep : Nat} {Q : Value → Shared → Prop} (hd : (d == sysModules) = false) (ho : s.heap.get? d = some o) (hc : o.ExactDict) (hdat : o.data = .dict es ep)
    (hQ : Q (.ref s.heap.objs.size) { s with heap := s.heap.push { cls := .type "dict_keyiterator", data := .fields #[.ref d, .int 0 0, .int es.size 0, .int ep 0] } }) :
    wpAny (model prog w) A (pyIter (.ref d)) Q E s := by
  have hT : s.TypeIs (.ref d) "dict" := ⟨o, ho, hc.1⟩
  refine wpAny_pyIter_slot hT F.slot_dict_iter (wpAny_call_entry F.slot_dict_iter hT F.entry_dict_iter ?_ (F.args_dict_iter_1 _))
  unfold Builtin.«dict.__iter__»
  refine wpAny_bind ?_
  unfold Builtin.Dict.dictSlotNone
  refine wpAny_bind (wpAny_notOrdered_dict hT ?_)
  show wpAny _ _ (pure (Value.ref d)) _ _ s
  refine wpAny_pure ?_
  show wpAny _ _ (Builtin.Dict.showsAll d >>= _) _ _ s
  unfold Builtin.Dict.showsAll
  rw [if_neg (by rw [hd]; exact Bool.false_ne_true)]
  refine wpAny_bind (wpAny_pure ?_)
  refine wpAny_bind (wpAny_dictEntries ho hdat ?_)
  refine wpAny_bind (wpAny_dictEpoch ho hdat ?_)
  refine wpAny_bind (wpAny_newObj_type (wpAny_pure ⟨_, rfl, "dict_keyiterator", _, ⟨_, Heap.get?_push_size _ rfl, rfl⟩, F.slot_dict_keyiterator_next.lookup, ?_⟩))
  simpa [rawInt] using hQ
theorem next_key_item {it d : Addr} {i n ep : Nat} {od : Obj} {es : Array DictEntry} {en : DictEntry} {Q : Option Value → Shared → Prop} (hit : s.heap.IsKeyIter it d i n ep) (hod : s.heap.get? d = some od) (hdd : od.data = .dict es ep)
    (hsz : es.size = n) (hx : es[i]? = some en) (hQ : ∀ h', h'.IsKeyIter it d (i + 1) n ep → Heap.SameBut it s.heap h' → Q (some en.key) { s with heap := h' }) : wpAny (model prog w) A (pyNext (.ref it)) Q E s := by
  obtain ⟨o, ho, hc, hd⟩ := id hit
  unfold pyNext
  refine wpAny_bind (wpAny_attempt (wpAny_callSpecial?_slot (name := Str.ofString "__next__") hit.typeIs F.slot_dict_keyiterator_next
    (wpAny_call_entry F.slot_dict_keyiterator_next hit.typeIs F.entry_dict_keyiterator_next ?_ (F.args_dict_keyiterator_next_1 _))))
  refine wpAny_bind (wpAny_pure ?_)
  refine wpAny_bind ?_
  refine wpAny_bind ?_
  first | refine wpAny_bind (wpAny_typeNameOfWhole_keyiter hit.typeIs (wpAny_pure ?_)) | refine wpAny_bind (wpAny_typeNameOf_keyiter hit.typeIs (wpAny_pure ?_))
  refine wpAny_bind (wpAny_fieldsOf ho hd ?_)
  have hown : Builtin.Dict_items.ownsTuple "dict_keyiterator" = false := by decide
  simp only [hown, Bool.false_eq_true, if_false]
  show wpAny _ _ (if (Value.ref d == Value.none) = true then _ else _) _ _ s
  rw [if_neg (show ¬ ((Value.ref d == Value.none) = true) from Bool.false_ne_true)]
  refine wpAny_bind (wpAny_pure ?_)
  refine wpAny_bind (wpAny_dictEntries hod hdd ?_)
  rw [if_neg (by rw [hsz]; simp)]
  refine wpAny_bind (wpAny_pure ?_)
  refine wpAny_bind (wpAny_dictEpoch hod hdd ?_)
  rw [if_neg (by simp)]
  refine wpAny_pure ?_
  obtain ⟨hlt', hen⟩ := Array.getElem?_eq_some_iff.mp hx
  simp only [show ¬ ((i : Int) < 0) from by omega, if_false, Int.toNat_natCast, Array.getElem?_eq_getElem hlt']
  refine wpAny_bind ?_
  first | refine wpAny_bind (wpAny_typeNameOfWhole_keyiter hit.typeIs (wpAny_pure ?_)) | refine wpAny_bind (wpAny_typeNameOf_keyiter hit.typeIs (wpAny_pure ?_))
  refine wpAny_bind (wpAny_isOneOf_keyiter hit.typeIs ?_)
  show wpAny _ _ (setField (.ref it) 1 (rawInt ((i : Int) + 1)) >>= _) _ _ s
  refine wpAny_bind (wpAny_setField ho hd (by simp) ?_)
  have hit' : (s.heap.update it (Obj.mapFields (·.setIfInBounds 1 (rawInt ((i : Int) + 1))))).IsKeyIter it d (i + 1) n ep :=
    ⟨_, Heap.get?_update_self _ ho (Obj.isFreed_of_fields (Obj.data_mapFields hd _)), (Obj.cls_mapFields ..).trans hc, by rw [Obj.data_mapFields hd]; simp [rawInt]⟩
  refine wpAny_bind (wpAny_holding ?_)
  refine wpAny_bind (wpAny_isOneOf_keyiter (s := { s with heap := s.heap.update it (Obj.mapFields (·.setIfInBounds 1 (rawInt ((i : Int) + 1)))) }) hit'.typeIs ?_)
  show wpAny _ _ (pure es[i].key) _ _ _
  rw [hen]
  exact wpAny_pure (wpAny_pure ⟨_, rfl, wpAny_pure (hQ _ hit' (Heap.SameBut.update ..))⟩)
theorem next_key_end {it d : Addr} {i n ep : Nat} {od : Obj} {es : Array DictEntry} {Q : Option Value → Shared → Prop} (hh : A.handled = none) (hit : s.heap.IsKeyIter it d i n ep) (hod : s.heap.get? d = some od) (hdd : od.data = .dict es ep)
    (hsz : es.size = n) (hge : n ≤ i) (hQ : ∀ h', Heap.ExtBut it s.heap h' → Q none { s with heap := h' }) : wpAny (model prog w) A (pyNext (.ref it)) Q E s := by
  obtain ⟨o, ho, hc, hd⟩ := id hit
  unfold pyNext
  refine wpAny_bind (wpAny_attempt (wpAny_callSpecial?_slot (name := Str.ofString "__next__") hit.typeIs F.slot_dict_keyiterator_next
    (wpAny_call_entry F.slot_dict_keyiterator_next hit.typeIs F.entry_dict_keyiterator_next ?_ (F.args_dict_keyiterator_next_1 _))))
  refine wpAny_bind (wpAny_pure ?_)
  refine wpAny_bind ?_
  refine wpAny_bind ?_
  first | refine wpAny_bind (wpAny_typeNameOfWhole_keyiter hit.typeIs (wpAny_pure ?_)) | refine wpAny_bind (wpAny_typeNameOf_keyiter hit.typeIs (wpAny_pure ?_))
  refine wpAny_bind (wpAny_fieldsOf ho hd ?_)
  have hown : Builtin.Dict_items.ownsTuple "dict_keyiterator" = false := by decide
  simp only [hown, Bool.false_eq_true, if_false]
  show wpAny _ _ (if (Value.ref d == Value.none) = true then _ else _) _ _ s
  rw [if_neg (show ¬ ((Value.ref d == Value.none) = true) from Bool.false_ne_true)]
  refine wpAny_bind (wpAny_pure ?_)
  refine wpAny_bind (wpAny_dictEntries hod hdd ?_)
  rw [if_neg (by rw [hsz]; simp)]
  refine wpAny_bind (wpAny_pure ?_)
  refine wpAny_bind (wpAny_dictEpoch hod hdd ?_)
  rw [if_neg (by simp)]
  refine wpAny_pure ?_
  have hge' : es.size ≤ i := by rw [hsz]; exact hge
  simp only [show ¬ ((i : Int) < 0) from by omega, if_false, Int.toNat_natCast, Array.getElem?_eq_none hge']
  refine wpAny_bind ?_
  first | refine wpAny_bind (wpAny_typeNameOfWhole_keyiter hit.typeIs (wpAny_pure ?_)) | refine wpAny_bind (wpAny_typeNameOf_keyiter hit.typeIs (wpAny_pure ?_))
  show wpAny _ _ (setField (.ref it) 0 .none >>= _) _ _ s
  refine wpAny_bind (wpAny_setField ho hd (by simp) ?_)
  show wpAny _ _ (newExc (.type "StopIteration") [] >>= _) _ _ _
  refine wpAny_bind ?_
  simp only [newExc, newTuple]
  refine wpAny_bind (wpAny_newObj_type ?_ (by size_fits))
  refine wpAny_bind (m := firstArgMember _ _) (wpAny_of_eq (a := Value.none) (by first | rfl | (simp only [firstArgMember]; rfl)) ?_)
  refine wpAny_newObj_type ?_ (by size_fits)
  simp only [raiseNew]
  refine wpAny_bind (wpAny_handled ?_)
  rw [show A.in1.handled = none from hh]
  refine wpAny_bind (wpAny_pure (wpAny_throw ?_))
  refine wpAny_bind (wpAny_isInstance (T := "StopIteration") (b := true) ⟨_, Heap.get?_push_size _ rfl, rfl⟩ isSubtype_stop ?_)
  exact wpAny_pure (hQ _ (((Heap.SameBut.update ..).extBut.push _).push _))
end

/-! ### a locked dict -/
section
variable {X : Cx} {pins : List (Addr × Obj)} {σ : St} {H : Hp} {s : Shared} {d : Addr} {o : Obj}
end

section
variable {P : Program} {w : World} {K : PySem.W.Frag} {tg : Expr} {d : Addr} {o : Obj} {es : Array DictEntry} {ep : Nat}
end

/-! ### for k in d, d.keys(), d.values(), d.items() -/
section
variable {X : Cx} {tg e : Expr} {td : TE} {apos cpos : Pos}
end

/-! ### enumerate(list) -/
/-- the list at a as it stands at each turn, each item in a new pair -/
def Ite (K : PySem.W.Frag) (a : Addr) : It :=
  ⟨fun i H => ∃ (xs : List V) (x : V), SqL K H a xs ∧ xs[i]? = some x, fun i H v H' => ∃ T x, v = .ref T ∧ H T = none ∧ H' = upd H T (.tup [.int (i : Nat), x]) ∧ ∀ xs, SqL K H a xs → xs[i]? = some x, fun i H => ∃ xs : List V, SqL K H a xs ∧ xs.length ≤ i⟩
theorem turn_enum {P : Program} {w : World} {K : PySem.W.Frag} {elts : List Expr} {kk : Nat} {tpos : Pos} (a e it : Addr) :
    Turn P w K (.Tuple elts kk tpos) (Ite K a) [e, it] e (fun i h => (∃ old, IsEnum h e it ((i : Nat) : Int) old) ∧ h.IsListIter it a i ∧ e ≠ it) where
  mem := by simp
  obj := fun i h st b hb => by
    obtain ⟨⟨old, he⟩, ⟨o, ho, hc, hd⟩, _⟩ := st
    have e' : b = e ∨ b = it := by simpa using hb
    rcases e' with z | z
    · rw [z]; exact ⟨_, he, fun v q => nomatch q⟩
    · rw [z]; exact ⟨o, ho, fun v q => by rw [hd] at q; cases q⟩
  keep := fun i h h' st k => let ⟨⟨old, he⟩, hi, hne⟩ := st; ⟨⟨old, k e (by simp) _ he⟩, hi.at fun o q => k it (by simp) o q, hne⟩
  item := by
    intro X hP hw hK hc i pins s σ H E I hf st hg
    subst hP hw hK
    obtain ⟨⟨old, he⟩, hit, hne⟩ := st
    obtain ⟨xs, x, hq, hx⟩ := hg
    obtain ⟨its, rv, p, hz⟩ := I.list hq
    obtain ⟨u, hu, ru⟩ := rv.get hx
    have hel : e < s.heap.objs.size := Heap.lt_size he
    have hil : it < s.heap.objs.size := by obtain ⟨_, q, _⟩ := hit; exact Heap.lt_size q
    refine wpAny_pyNext_enum_item he hit p.isList (x := u) (by simpa using hu) hne fun h' ho hit' hT hsz hk => ?_
    refine ⟨_, rfl, wpAny_letOwnedTupleGo_enum (s := { s with heap := h', toks := s.toks + 1 }) ho fun h'' he' sb => ?_⟩
    have hT2 : h''.get? s.heap.objs.size = some { cls := .type "tuple", data := .seq #[.int i s.toks, u] } := (sb.2 _ (Nat.ne_of_gt hel)).trans hT
    have new : ObjOk X.prog X.w (upd H s.heap.objs.size (.tup [.int (i : Nat), x])) h'' s.heap.objs.size (.tup [.int (i : Nat), x]) :=
      ⟨by show 2 ≤ sizeLine; decide, [.int i s.toks, u], .cons ⟨_, rfl⟩ (.cons ru .nil), ⟨_, hT2, rfl, _, rfl⟩⟩
    have I1 : Inv X pins σ (upd H s.heap.objs.size (.tup [.int (i : Nat), x])) { s with heap := h'', toks := s.toks + 1 } :=
      I.turnedNew (ch := [e, it]) (fun b ob hb q => (sb.2 b (fun z => hb (by simp [z]))).trans (hk b ob (fun z => hb (by simp [z])) (fun z => hb (by simp [z])) q)) hf (Nat.le_refl _) new
    refine ⟨.ref s.heap.objs.size, _, I1, rfl, ⟨_, x, rfl, I.hok.fresh (Nat.le_refl _), rfl, fun ys hy => by rw [I.list_inj hy hq]; exact hx⟩, ⟨⟨u, ?_⟩, hit'.at fun o q => (sb.2 it (Ne.symm hne)).trans q, hne⟩, fun b hb => ?_⟩
    · have e1 : ((i + 1 : Nat) : Int) = (i : Int) + 1 := by omega
      rw [e1]; exact he'
    · have hb' : b < s.heap.objs.size := by
        have e' : b = e ∨ b = it := by simpa using hb
        rcases e' with z | z
        · rw [z]; exact hel
        · rw [z]; exact hil
      rw [upd_ne (Nat.ne_of_lt hb')]
      exact (hf b hb).1
  done := by
    intro X hP hw hK hc i pins s σ H E I hf st hg
    subst hP hw hK
    obtain ⟨⟨old, he⟩, hit, hne⟩ := st
    obtain ⟨xs, hq, hx⟩ := hg
    obtain ⟨its, rv, p, hz⟩ := I.list hq
    obtain ⟨f0, f1, f2, f3, f4, f5⟩ := hf it (by simp)
    have hl := rv.length
    exact wpAny_pyNext_enum_end (I.ok.hd hc) he hit p.isList (by simp; omega) fun h' eb => ⟨rfl, I.turned (t' := s.toks) (fun b o hb q => eb b o hb q) f0 f1 f3 f4 f5⟩
  self := fun A i s Q E st h => let ⟨⟨_, he⟩, _⟩ := st; wpAny_pyIter_enum he h
def iEnum (K : PySem.W.Frag) (ta : TA) : TI := fun σ H R => ta σ H fun vs H1 => ∃ a xs, vs = [.ref a] ∧ SqL K H1 a xs ∧ R (Ite K a) H1
theorem pi_enum {X : Cx} {e : Expr} {ta : TA} {p pos tpos : Pos} {elts : List Expr} {kk : Nat} (hg : Gl X "enumerate") (hm : X.mg "enumerate" = none) (ha : PA X [e] ta) (hs : starEach [e] X.env = [(false, eval e X.env)] := by rfl) :
    PI X (.Tuple elts kk tpos) (.Call (.Name "enumerate" p) [e] [] pos) (iEnum X.K ta) := by
  intro pins s σ H R I h
  refine Call_ (ld_blt I hg hm boot_enumerate (PyProof.Rows.callWith_type1 (thn (ha pos pins s σ H _ I h) fun us s1 ⟨vs, H1, I1, r1, q1⟩ => ?_) hs rfl))
  obtain ⟨a, xs, ex, hq, q⟩ := q1
  subst ex
  cases r1 with
  | cons r rr =>
    cases rr
    cases r
    obtain ⟨its, rv, p', hz⟩ := I1.list hq
    refine call_enumerate_list p'.isList fun h' he hit hsz hk => wpAny_pyIter_enum he ?_
    have I2 : Inv X pins σ H1 { s1 with heap := h' } := I1.kept (t' := s1.toks) hk
    refine ⟨s1.heap.objs.size + 1, [s1.heap.objs.size + 1, s1.heap.objs.size], _, _, H1, rfl, I2, turn_enum a (s1.heap.objs.size + 1) s1.heap.objs.size, ⟨⟨.none, he⟩, hit, Nat.succ_ne_self _⟩, fun b hb => ?_, q⟩
    have e' : b = s1.heap.objs.size + 1 ∨ b = s1.heap.objs.size := by simpa using hb
    have hle : s1.heap.objs.size ≤ b := by
      rcases e' with z | z
      · rw [z]; exact Nat.le_add_right _ _
      · rw [z]; exact Nat.le_refl _
    exact I1.fpOk hle (I1.hok.fresh hle)
/-! ### zip(list, list) -/
end L2

section 
namespace Bits
open PySem PyProof.Rows








end Bits
end 

section 
namespace TL
open PySem PySem.Builtin PySem.Builtin.Str PySem.StrLaws

abbrev tl (x : Str) : List Nat := x.cps.toList
theorem tl_append (x y : Str) : tl (x ++ y) = tl x ++ tl y := by
  show (x ++ y).cps.toList = _
  rw [Str.cps_append, Array.toList_append]

/-! ### the list functions -/
/-- S stands at the head of l -/
def pre (S l : List Nat) : Bool := l.take S.length == S
/-- l cut at each S from the left; k signs are still to be passed over -/
def spl (S : List Nat) : Nat → List Nat → List Nat → List (List Nat)
  | _, acc, [] => [acc]
  | 0, acc, c :: r => if pre S (c :: r) = true then acc :: spl S (S.length - 1) [] r else spl S 0 (acc ++ [c]) r
  | k + 1, acc, _ :: r => spl S k acc r
/-- what stands before the first S, and behind it -/
def par (S : List Nat) : List Nat → List Nat → Option (List Nat × List Nat)
  | _, [] => none
  | acc, c :: r => if pre S (c :: r) = true then some (acc, (c :: r).drop S.length) else par S (acc ++ [c]) r


theorem pre_of_head {s c : Nat} (S r : List Nat) (h : c ≠ s) : pre (s :: S) (c :: r) = false := by
  cases hp : pre (s :: S) (c :: r) with
  | false => rfl
  | true =>
    have e : (c :: r).take (s :: S).length = s :: S := eq_of_beq hp
    rw [List.length_cons, List.take_succ_cons] at e
    injection e with e1 e2
    exact absurd e1 h


/-! ### the model's split and partition are these -/




/-! ### computing spl and par -/
/-- the separator's first sign is not in the part -/
theorem free_of {s : Nat} {S p q : List Nat} (h : s ∉ p) : ∀ i, i < p.length → pre (s :: S) ((p ++ q).drop i) = false := fun i hi => by
  have hlt : i < (p ++ q).length := by rw [List.length_append]; omega
  have e : (p ++ q).drop i = (p ++ q)[i] :: (p ++ q).drop (i + 1) := List.drop_eq_getElem_cons hlt
  rw [e]
  refine pre_of_head _ _ fun z => h ?_
  have e1 : (p ++ q)[i] = p[i] := List.getElem_append_left hi
  rw [← z, e1]
  exact List.getElem_mem hi

/-- joined lists -/
def joinL (S : List Nat) : List (List Nat) → List Nat
  | [] => []
  | [p] => p
  | p :: q :: r => p ++ (S ++ joinL S (q :: r))
theorem tl_join (y : Str) : ∀ parts : List Str, tl (Str.join y parts) = joinL (tl y) (parts.map tl)
  | [] => rfl
  | [_] => rfl
  | x :: z :: r => by
    show tl (x ++ y ++ Str.join y (z :: r)) = tl x ++ (tl y ++ joinL (tl y) ((z :: r).map tl))
    rw [tl_append, tl_append, tl_join y (z :: r), List.append_assoc]
theorem join_eq (y : Str) (parts : List Str) : Txt.join y parts = Str.join y parts := glued_eq_join y parts

/-! ### digits -/

/-! ### words: x.split() -/
end TL
end 

namespace L2
open PySem PySem.Spec PyProof.Rows


theorem strs_of_vals : ∀ {ys : List Str} {us : List Value}, Vals (ys.map V.str) us → StrsAre us ys
  | [], _, .nil => .nil
  | y :: ys, _, .cons r t => by
    obtain ⟨k, rfl⟩ := r
    exact .cons y k (strs_of_vals t)


section
variable {X : Cx} {pins : List (Addr × Obj)} {σ : St} {H : Hp} {s : Shared} {Q : VK}
end

section
variable {X : Cx}




/-- sep.join(a list | a tuple of texts) -/
theorem mt_join : MtR X "str.join" (fun x xs H Q => ∃ a p, ∃ ys : List Str, x = .str a ∧ xs = [.ref p] ∧ (SqL X.K H p (ys.map V.str) ∨ SqT X.K H p (ys.map V.str)) ∧
    (ys.map (·.length)).sum + ys.length * a.length ≤ 16777216 ∧ Q (.str (Txt.join a ys)) H) := by
  intro pins s σ H x xs v us Q I rx rs h
  obtain ⟨a, p, ys, rfl, rfl, hp, hz, h⟩ := h
  obtain ⟨t, rfl⟩ := rx
  cases rs with
  | cons r1 rs =>
    cases rs
    cases r1
    rcases hp with hp | hp
    · obtain ⟨its, r, ⟨o, n, ho, hc, _, hd⟩, _⟩ := I.list hp
      exact PyProof.Rows.join_list (items := its.toArray) ⟨o, ho, hc, n, hd⟩ (by rw [List.toList_toArray]; exact strs_of_vals r) hz fun t' k => ⟨.str _, H, I.tok k, ⟨t', rfl⟩, h⟩
    · obtain ⟨its, r, ht, _⟩ := I.tuple hp
      exact PyProof.Rows.join_tuple (items := its.toArray) ht (by rw [List.toList_toArray]; exact strs_of_vals r) hz fun t' k => ⟨.str _, H, I.tok k, ⟨t', rfl⟩, h⟩

/-! ### of a text alone -/

/-! ### of a text and a text -/

end

section
variable {X : Cx} {o e : Expr} {to te : TE}
def tM1 (r : V → List V → Hp → VK → Prop) (to te : TE) : TE := fun σ H Q => to σ H fun x H1 => (∃ a, x = .str a) ∧ te σ H1 fun y H2 => r x [y] H2 Q
theorem pe_m1 {id : String} {name : Str} {apos pos : Pos} {r : V → List V → Hp → VK → Prop} (slot : Slot "str" name id) (ty : typeOf (.builtin id) = pure (.type "method_descriptor")) (rule : MtR X id r) (ho : PE X o to) (he : PE X e te)
    (hs : starEach [e] X.env = [(false, eval e X.env)] := by rfl) (hbase : attributeBase o name X.env (eval o X.env) = eval o X.env := by rfl) (hline : (apos.endLine == pos.line) = true := by rfl) :
    PE X (.Call (.Attribute o name apos) [e] [] pos) (tM1 r to te) := by
  intro pins s σ H Q I h
  refine PySem.Call_method1 hbase hs hline (thn (ho pins s σ H _ I h) fun v s1 ⟨x, H1, I1, r1, q1⟩ => ?_)
  obtain ⟨⟨a, rfl⟩, q1⟩ := q1
  obtain ⟨t, rfl⟩ := _root_.id r1
  refine ⟨"str", _, F.plainAttrs_str, slot, ty, typeIs_str _ _ _, (fun _ e => nomatch e), Calls.callWith_builtin rfl (Calls.evalArgs_plain (Calls.spliced_cons ?_))⟩
  exact thn (he pins s1 σ H1 _ I1 q1) fun u s2 ⟨y, H2, I2, r2, q2⟩ => Calls.spliced_nil (rule pins s2 σ H2 _ [y] _ [u] Q I2 r1 (.cons r2 .nil) q2)

theorem pe_join {apos pos : Pos} (ho : PE X o to) (he : PE X e te) (hs : starEach [e] X.env = [(false, eval e X.env)] := by rfl) (hbase : attributeBase o "join" X.env (eval o X.env) = eval o X.env := by rfl) (hline : (apos.endLine == pos.line) = true := by rfl) :
    PE X (.Call (.Attribute o "join" apos) [e] [] pos) (tM1 (fun x xs H Q => ∃ a p, ∃ ys : List Str, x = .str a ∧ xs = [.ref p] ∧ (SqL X.K H p (ys.map V.str) ∨ SqT X.K H p (ys.map V.str)) ∧
      (ys.map (·.length)).sum + ys.length * a.length ≤ 16777216 ∧ Q (.str (Txt.join a ys)) H) to te) :=
  pe_m1 F.slot_str_join F.type_str_join mt_join ho he hs hbase hline
end
end L2

namespace L2
open PySem PySem.Spec PyProof.Rows

section
variable {X : Cx}
theorem op_le_str : OpR X (compareOp .LtE) (fun x y H Q => ∃ i j, x = .str i ∧ y = .str j ∧ Q (.bl (!decide (j.cps.toList < i.cps.toList))) H) := by
  intro pins s σ H x y v u Q I rx ry h
  obtain ⟨i, j, rfl, rfl, q⟩ := h
  obtain ⟨t, rfl⟩ := rx
  obtain ⟨t', rfl⟩ := ry
  exact PySem.P.le_str (fin_bl I q rfl)
end

/-! ### slices of a text -/
theorem IsPart.raw {v : Value} {o : Option Int} (p : IsPart v o) : ∃ l : Option (Int × Tok), v = partValue l ∧ l.map (·.1) = o := by
  cases p with
  | none => exact ⟨none, rfl, rfl⟩
  | int i t => exact ⟨some (i, t), rfl, rfl⟩


end L2

namespace Att
open PySem PySem.W PySem.Calls PyProof.Rows

/-! ### the script -/
theorem ints_of_wellAll {P : Params} {h : Heap} : ∀ (ns : List Int) (vs : List Value), WellAll P h vs (ns.map WData.int) → IntsAre vs ns := by
  intro ns
  induction ns with
  | nil =>
    intro vs w
    rw [List.map_nil] at w
    cases w
    exact .nil
  | cons n ns ih =>
    intro vs w
    rw [List.map_cons] at w
    cases w with
    | cons a b =>
      cases a
      exact .cons _ _ (ih _ b)

theorem script_of {l : OpenLaw} {n : Nat} (hn : l.most = some n) {P : Params} {h : Heap} {args : List WData} {vals : List Value}
    (hpre : l.row.toRowW.claim.pre args = true) (hwl : WellAll P h vals args) :
    ∃ a vs ns, vals = [Value.ref a] ∧ args = [WData.list (ns.map WData.int)] ∧ h.get? a = some { cls := .type "list", data := .seq vs.toArray } ∧ IntsAre vs ns ∧ ns.length ≤ n := by
  have hsh : WShape.hasAll [] args [.list .int] = true := (pre_splitW hpre).1
  have hc : l.pre.holds [] { args := args } = true := (pre_splitW hpre).2
  obtain ⟨d, r, rfl, h1, h2⟩ := hasAllW_cons hsh
  obtain rfl := hasAllW_nil h2
  obtain ⟨xs, rfl, h3⟩ := hasW_list h1
  obtain ⟨ns, rfl⟩ := items_int h3
  have hlen : ns.length ≤ n := by
    unfold OpenLaw.pre at hc
    have h4 : (WTm.not (.lt (.lit (.int (n : Int))) (.len (.arg 0)))).holds [] { args := [.list (ns.map .int)] } = true := by
      have h4 := (holds_andW hc).1
      rw [hn] at h4
      exact h4
    have h5 := condW_of h4 (w_not (w_lt w_lit (w_len_list (w_arg rfl))))
    rw [List.length_map] at h5
    refine Nat.le_of_not_lt fun q => ?_
    have q' : (n : Int) < ((ns.length : Nat) : Int) := by omega
    first
      | (rw [decide_eq_true q'] at h5; exact absurd h5 (by decide))
      | (simp at h5; omega)
  cases hwl with
  | cons w1 w2 =>
    cases w2
    cases w1 with
    | list ho hall => exact ⟨_, _, ns, rfl, rfl, ho, ints_of_wellAll ns _ hall, hlen⟩

theorem post_true (l : OpenLaw) (args : List WData) : l.row.toRowW.claim.post args (.bool true) args = true :=
  postW_of (r := l.row.toRowW) (X := (true == true))
    (show WShape.has [] (.bool true) .bool = true by first | rfl | decide | simp [WShape.has, WShape.arms, WShape.armsAll])
    (show (WTm.eq .res (.lit (.bool true))).value [] { args := args, res := some (.bool true), after := args } = some (.bool (true == true)) from w_eq_bool (w_res rfl) w_lit) rfl

/-! ### the attachment: holds_open's last premise (the goal 'hc' behind k_head) from a wpAny of the law's body -/

/-- the same from a codeAny of the CALL (for a layer whose function contracts speak of calls) -/
theorem attach_call {l : OpenLaw} {n : Nat} {q : Program} {loose : List Str} {XP : (Str → Option Value) → Heap → Prop} {YP : World → Heap → Prop} {d : DefRec}
    (hn : l.most = some n) (hdf : d.params.defaults = [])
    (call : ∀ (w : World) (s₀ s₁ : Shared) (mg mb : Str → Option Value) (fa : Addr) (o : Obj) (pm cd doc : Value) (a : Addr) (vs : List Value) (ns : List Int),
      Ground q loose [] XP w s₀ mg mb s₁.heap → YP w s₁.heap →
      s₁.heap.get? fa = some o → o.data = .func (docDef d.name d.params d.body d.scope pm cd doc) → s₁.heap.CodeRec cd d.name → mg d.name = some (.ref fa) →
      s₁.heap.get? a = some { cls := .type "list", data := .seq vs.toArray } → IntsAre vs ns → ns.length ≤ n → s₁.gens = #[] →
      codeAny (model l.prog w) callerA (.call (.ref fa) ⟨[.ref a], []⟩) (fun r s' => r = .ok (.ret (.bool true)) ∧ OldK s₁.heap s'.heap ∧ s'.os = s₁.os ∧ AllBare s'.gens) s₁) :
    WalkO q loose XP YP l.row.toRowW d [] (fun f vs => PySem.call f vs) := by
  intro w s₀ s₁ mg mb G Y fa o pm cd doc dV kV ho hd hcd hD hmg hg args vals as hpre hlay hrd hwl hlo
  obtain rfl : dV = .none := Dflts.none hD hdf
  obtain rfl : kV = .none := Dflts.noKw hD
  obtain ⟨a, vs, ns, rfl, rfl, hobj, hints, hlen⟩ := script_of hn hpre hwl
  refine enter_call (codeAny_mono (call w s₀ s₁ mg mb fa o pm cd doc a vs ns G Y ho (fd_plain hd) hcd hmg hobj hints hlen hg) fun r s' hq => ?_)
  obtain ⟨rfl, h2, h3, h4⟩ := hq
  exact ⟨.inl ⟨.bool true, .bool true, [], rfl, fun _ => rfl, .bool true, post_true l _, fun _ => ⟨List.Pairwise.nil, fun _ hm => (nomatch hm)⟩⟩, h2, h3, h4⟩


/-! ### rules over ANY heap (no ledger) from facts about the written part K: the library's own take a ledger (News) for what they write -/
section
variable {prog : Program} {w : World} {A : Around} {E : Value → Shared → Prop} {s : Shared} {K : Frag}





/-! the whole heap as the ledger: makes every rule that writes through a ledger a rule over any heap -/
def ledger (h : Heap) (L d : Addr) : List (Addr × Obj) := (List.range h.objs.size).filterMap fun a => if a = L ∨ a = d then none else (h.get? a).map fun o => (a, o)

end
end Att

namespace L2
open PySem PySem.Spec PyProof.Rows

theorem vals_ints : ∀ {vs : List Value} {ns : List Int}, IntsAre vs ns → Vals (ns.map V.int) vs
  | _, _, .nil => .nil
  | _, _, .cons n t h => .cons ⟨t, rfl⟩ (vals_ints h)

/-- nothing is tracked but the script, known to the object (or it is an object of the module) -/
def Only (H : Hp) : Prop := ∀ b, H b = none ∨ ∃ o xs, H b = some (.frz o (.lst xs))

/-- THE HEAD: the law's promise, at the heap behind the top. F, the promise of the law's def, may use that base is part of the heap (so K.In base, base.Ns mainGlobals mg stand in Mod) -/
theorem law_call {P : Program} {w : World} {K : PySem.W.Frag} {mg mb : Str → Option Value} {CX : CXT} {k : Nat} {fa a : Addr} {fd : FuncData} {x : Str} {sp : Sp} {s₁ : Shared} {vs : List Value} {ns : List Int}
    (KX : K.In s₁.heap) (hns : s₁.heap.Ns mainGlobals mg) (hb : s₁.heap.Ns builtinsNs mb) (hbb : ∀ x : Str, x ≠ "__name__" → mb x = bootBuiltins x) (hlim : s₁.heap.NoLimit) (hg : s₁.gens = #[])
    (ha : s₁.heap.get? a = some { cls := .type "list", data := .seq vs.toArray }) (hi : IntsAre vs ns) (hl : ns.length ≤ sizeLine) (hr : Room k callerA)
    (F : ∀ base : Heap, K.In base → base.Ns mainGlobals mg → FnOk P w K mg base CX k fa fd [x] sp) (hbind : ∀ (s : Shared) (u : Value), BindsTo s fd ⟨[u], []⟩ [(x, u)])
    (hsp : ∀ H : Hp, Only H → SqL K H a (ns.map V.int) → sp [.ref a] H (fun v _ => v = .bl true) fun _ _ _ => False)
    (hCX : ∀ H e s', CX [] H s₁ (fun _ _ _ => False) e s' → False) :
    codeAny (model P w) callerA (.call (.ref fa) ⟨[.ref a], []⟩) (fun r s' => r = .ok (.ret (.bool true)) ∧ OldK s₁.heap s'.heap ∧ s'.os = s₁.os ∧ AllBare s'.gens) s₁ := by
  have rv := vals_ints hi
  have lenV := hi.length
  -- from an abstract heap in which nothing but the script may be tracked
  have core : ∀ H : Hp, Only H → SqL K H a (ns.map V.int) → HOk P w H s₁.heap → (∀ b, H b ≠ none → b = a) → (H a ≠ none → K.lookup a = none) →
      codeAny (model P w) callerA (.call (.ref fa) ⟨[.ref a], []⟩) (fun r s' => r = .ok (.ret (.bool true)) ∧ OldK s₁.heap s'.heap ∧ s'.os = s₁.os ∧ AllBare s'.gens) s₁ := by
    intro H hO hS hok hA hK
    have base_of : ∀ {b : Addr} {o : Obj}, s₁.heap.get? b = some o → H b = none → (hidT s₁.heap H).get? b = some o := fun e n => hidT_get e n
    have noA : ∀ {b : Addr} {o : Obj} {es : Array DictEntry} {ep : Nat}, s₁.heap.get? b = some o → o.data = .dict es ep → H b = none := fun {b o es ep} e d => by
      cases q : H b with
      | none => rfl
      | some u =>
        have e' : b = a := hA b (by rw [q]; simp)
        subst e'
        rw [ha] at e; cases e
        have d' : Data.seq vs.toArray _ = Data.dict es ep := d
        cases d'
    have nsK : ∀ {b : Addr} {m : Str → Option Value}, s₁.heap.Ns b m → (hidT s₁.heap H).Ns b m := fun {b m} ⟨o, es, ep, e, d, r⟩ => ⟨o, es, ep, base_of e (noA e d), d, r⟩
    have hKb : K.In (hidT s₁.heap H) := fun b o e => base_of (KX b o e) (by
      cases q : H b with
      | none => rfl
      | some u =>
        have e' : b = a := hA b (by rw [q]; simp)
        subst e'
        rw [hK (by rw [q]; simp)] at e; cases e)
    have hM : Mod K mg (hidT s₁.heap H) := ⟨hKb, nsK hns, ⟨mb, nsK hb, hbb⟩, let ⟨mc, h1, h2⟩ := hlim; ⟨mc, nsK h1, h2⟩⟩
    have e0 : Env0 P w K mg (hidT s₁.heap H) callerA [] s₁ H := ⟨rfl, hM, fun b o e => of_hidT e, Nat.le_of_eq (hidT_size _ _), trivial, fun b hb => absurd (show b ∈ ([] : List Addr) from hb) (by simp), hok, .of_eq hg⟩
    refine codeAny_mono ((F _ hKb (nsK hns)).run callerA [] s₁ H ⟨[.ref a], []⟩ [.ref a] [.ref a] _ _ hr e0 (hbind s₁ (.ref a)) (.cons rfl .nil) (hsp H hO hS)) fun r s' h => ?_
    cases r with
    | error e => exact (hCX H e s' h).elim
    | ok fl =>
      cases fl with
      | next => exact False.elim h
      | brk => exact False.elim h
      | cont => exact False.elim h
      | ret u =>
        obtain ⟨v, H', os, bare, un, hok', r', q⟩ := h
        have q' : v = .bl true := q
        subst q'
        obtain rfl : u = Value.bool true := r'
        refine ⟨rfl, OldK.of_keep fun b o e => ?_, os, bare⟩
        cases q : H b with
        | none => exact un.keep b o e q (by intro z; exact absurd (show b ∈ ([] : List Addr) from z) (by simp)) (by simp)
        | some u =>
          rcases hO b with z | ⟨ob, xs, z⟩
          · rw [q] at z; cases z
          · have z2 := un.frzs b ob _ z
            obtain ⟨e1, _⟩ := hok b _ z
            obtain ⟨e2, _⟩ := hok' b _ z2
            rw [e] at e1; cases e1
            exact e2
  cases hk : K.lookup a with
  | some o =>
    -- the script is one of the module's own objects
    have e := KX a o hk
    rw [ha] at e
    cases e
    refine core (fun _ => none) (fun _ => .inl rfl) (.inr ⟨_, vs.toArray, _, hk, rfl, rfl, rfl, by rw [List.size_toArray, lenV]; exact hl, by simpa using rv⟩) (fun b u z => by have z' : (none : Option HO) = some u := z; cases z') (fun b z => absurd rfl z) fun z => absurd rfl z
  | none =>
    refine core (fun b => if b = a then some (.frz { cls := .type "list", data := .seq vs.toArray } (.lst (ns.map V.int))) else none) (fun b => ?_) (.inl (.inr ⟨{ cls := .type "list", data := .seq vs.toArray }, if_pos rfl⟩)) (fun b u z => ?_) (fun b z => ?_) fun _ => hk
    · by_cases hb : b = a
      · exact .inr ⟨_, _, if_pos hb⟩
      · exact .inl (if_neg hb)
    · by_cases hb : b = a
      · have z' := (if_pos hb).symm.trans z
        cases z'
        subst hb
        exact ⟨ha, by rw [List.length_map]; exact hl, vs, _, rv, ha⟩
      · have z' := (if_neg hb).symm.trans z
        cases z'
    · by_cases hb : b = a
      · exact hb
      · exact absurd (if_neg hb) z
end L2

namespace L2
open PySem PySem.Spec PyProof.Rows

abbrev KOf {K : PySem.W.Frag} {h : Heap} (_ : K.In h) : PySem.W.Frag := K

/-- the goal that k_head leaves (case hc), from the law's promise. F gives the function object fd (K's own) once, then the promise over every base -/
theorem walk_of {l : PySem.W.OpenLaw} {n k : Nat} {q : Program} {loose : List Str} {XP : (Str → Option Value) → Heap → Prop} {YP : World → Heap → Prop} {d : DefRec} {K : Params → PySem.W.Frag} {CX : World → CXT} {sp : World → Sp} {x : Str}
    (hn : l.most = some n) (hn2 : n ≤ sizeLine) (hdf : d.params.defaults = []) (hr : Room k callerA)
    (hY : ∀ (w : World) (h : Heap), YP w h → (K w.params).In h)
    (F : ∀ (w : World) (mg : Str → Option Value) (fa : Addr) (h : Heap), (K w.params).In h → h.Ns mainGlobals mg → mg d.name = some (.ref fa) →
      ∃ fd : FuncData, (∀ (s : Shared) (u : Value), BindsTo s fd ⟨[u], []⟩ [(x, u)]) ∧
        ∀ base : Heap, (K w.params).In base → base.Ns mainGlobals mg → FnOk l.prog w (K w.params) mg base (CX w) k fa fd [x] (sp w))
    (hsp : ∀ (w : World) (H : Hp) (a : Addr) (ns : List Int), ns.length ≤ n → Only H → SqL (K w.params) H a (ns.map V.int) → sp w [.ref a] H (fun v _ => v = .bl true) fun _ _ _ => False)
    (hCX : ∀ (w : World) (H : Hp) (s : Shared) (e : Value) (s' : Shared), CX w [] H s (fun _ _ _ => False) e s' → False) :
    PySem.W.WalkO q loose XP YP l.row.toRowW d [] (fun f vs => PySem.call f vs) := by
  refine Att.attach_call hn hdf fun w s₀ s₁ mg mb fa o pm cd doc a vs ns G Y ho hd hcd hmg hobj hints hlen hg => ?_
  have KX := hY w _ Y
  obtain ⟨fd, hb, hF⟩ := F w mg fa _ KX G.T.g hmg
  exact law_call KX G.T.g G.T.b G.T.builtins G.T.nolimit hg hobj hints (Nat.le_trans hlen hn2) hr hF hb (fun H hO hS => hsp w H a ns hlen hO hS) fun H e s' => hCX w H s₁ e s'
end L2

/- THE LAST THEOREM (shape; LID, My.* are yours):
   My.Adr: a structure of the addresses that your layer names (classes, functions); My.Txt K t: a structure (Prop) of the equations over K;
   My.txt_mk : {K} {implicit addresses ..} (e1 : nsIn K mainGlobals "law" = some (some (.ref f))) (e2 : K.lookup f = some ⟨oc, od, .func (fnOf "law" "law" params body scope dV kV doc pm an cdv ct), sl⟩) (e3 : codeIn K cdv "law" = true) .. : ∃ t, My.Txt K t

set_option maxRecDepth 100000 in
set_option maxHeartbeats 0 in
theorem PySem.Challenge.cw_LID_holds : PySem.Challenge.rw_LID.Holds := by
  w_on; o_law; k_head; (case hw => w_witness2)
  k_fill
  refine L2.walk_of (l := PySem.Challenge.rw_LID) (n := 63) (k := 40) (x := "script") (CX := fun w => ..) (sp := fun _ => My.sp_law) rfl (by decide) rfl ⟨rfl, by decide, by decide⟩ (fun w h Y => PySem.W.kIn_of Y) ?F ?S ?C
  case F =>
    intro w mg fa h KX G hmg
    have T : ∃ t, My.Txt (L2.KOf KX) t := by
      dsimp only [L2.KOf]                          -- K must stand as «<heap const> w.params» for k_is
      refine' My.txt_mk ?e1 ?e2 ?e3 ..
      (case e1 => PySem.W.k_is)                    -- in the order: a name -> its address -> its object -> its parts
      (case e2 => PySem.W.k_is)
      ..
    obtain ⟨t, T⟩ := T
    have e0 := hmg.symm.trans (PySem.W.mg_of KX G T.law)
    cases e0                                       -- fa is the law's own address
    exact ⟨_, fun s u => .of_eq rfl, fun base kb nb => My.law_fn T kb nb⟩     -- if «.of_eq rfl» comes too early: refine' ⟨_, ?b, fun base kb nb => My.law_fn T kb nb⟩; exact fun s u => .of_eq rfl
  case S => exact fun w H a ns hl hO hS => ..
  case C => exact ..
(the tactic k_is has no namespace: write k_is) -/

/-! SHORT WORDS over the layer: a def of the text, its body, what a loop and a test want. -/
namespace L2
open PySem PySem.Spec PyProof.Rows

/-! ### the text by places -/
def defArgs (s : Stmt) : Arguments := match s with
  | .FunctionDef _ a _ _ _ _ _ _ _ _ => a
  | _ => { posonlyargs := [], args := [], vararg := none, kwonlyargs := [], kw_defaults := [], kwarg := none, defaults := [] }
def defBody (s : Stmt) : List Stmt := match s with
  | .FunctionDef _ _ b _ _ _ _ _ _ _ => b
  | _ => []
def defScope (s : Stmt) : Scope := match s with
  | .FunctionDef _ _ _ _ _ _ sc _ _ _ => sc
  | _ => { kind := .function, names := [], isGenerator := false, isCoroutine := false }

/-! ### no exception leaves a def -/
abbrev CX0 : CXT := fun _ _ _ _ _ _ => False
abbrev E0 : XK := fun _ _ _ => False
theorem pass0 {X : Cx} : Passes CX0 X E0 := fun _ _ _ _ _ _ _ h => h.elim

/-! ### a def (or method) of the text as it stands behind the top -/
structure Fun (K : PySem.W.Frag) (x qual : Str) (st : Stmt) (f : Addr) (fd : FuncData) : Prop where
  ex : ∃ (oc : Value) (od : Option Addr) (kV doc pm : Value) (an : Option Addr) (cdv ct : Value) (osl : Array (Option Value)),
    fd = PySem.W.fnOf x qual (defArgs st) (defBody st) (defScope st) .none kV doc pm an cdv ct ∧ K.lookup f = some ⟨oc, od, .func fd, osl⟩ ∧ PySem.W.codeIn K cdv qual = true
  kp : PySem.W.keepIn K (.ref f) = true
section
variable {P : Program} {w : World} {K : PySem.W.Frag} {mg : Str → Option Value} {base : Heap}
/-- THE RULE for a def: its body as a term of rules, and the reading of that term -/
theorem Fun.ok {x qual : Str} {st : Stmt} {f : Addr} {fd : FuncData} {N ps : List Str} {k : Nat} {sp : Sp} (F : Fun K x qual st f fd) (S : FnScope N ps (defScope st)) (len : ∀ vs H Q E, sp vs H Q E → vs.length = ps.length)
    (hbody : ∀ (cdv : Value) (A : Around) (outer : List Env) (s : Shared) (H : Hp) (vs : List V) (Q : VK) (E : XK), Room (k + 1) (A.deeper (envOfC qual (defScope st) s.heap.objs.size f cdv)) → sp vs H Q E →
      ∃ t, PSs (cxOf CX0 P w K mg base N qual (defScope st) f cdv A outer s H E).nox (defBody st) t ∧ t { nx := fun _ H' => Q .non H', rt := Q } (start N vs) H) : FnOk P w K mg base CX0 (k + 2) f fd ps sp := by
  obtain ⟨oc, od, kV, doc, pm, an, cdv, ct, osl, rfl, lk, hcd⟩ := F.ex
  refine fn_of lk hcd S len fun A outer s H vs Q E hr hsp => ?_
  obtain ⟨t, h, q⟩ := hbody cdv A outer s H vs Q E hr hsp
  exact ⟨t, h.nox, q⟩
/-- how its arguments bind (no defaults): h is «fun _ _ _ _ _ _ us hl => match us, hl with | [_, _], _ => rfl», one _ a parameter -/
theorem Fun.binds {x qual : Str} {st : Stmt} {f : Addr} {fd : FuncData} {ps : List Str} (F : Fun K x qual st f fd)
    (h : ∀ (kV doc pm : Value) (an : Option Addr) (cdv ct : Value) (us : List Value), us.length = ps.length → bindArgs (PySem.W.fnOf x qual (defArgs st) (defBody st) (defScope st) .none kV doc pm an cdv ct) ⟨us, []⟩ = pure (ps.zip us)) : Binds K fd ps [] := by
  obtain ⟨oc, od, kV, doc, pm, an, cdv, ct, osl, rfl, lk, hcd⟩ := F.ex
  exact .all (h kV doc pm an cdv ct)
theorem fun_mk {x qual : Str} {st : Stmt} {f : Addr} {oc : Value} {od an : Option Addr} {osl : Array (Option Value)} {kV doc pm cdv ct : Value} (l : K.lookup f = some ⟨oc, od, .func (PySem.W.fnOf x qual (defArgs st) (defBody st) (defScope st) .none kV doc pm an cdv ct), osl⟩)
    (c : PySem.W.codeIn K cdv qual = true) (k : PySem.W.keepIn K (.ref f) = true) : Fun K x qual st f (PySem.W.fnOf x qual (defArgs st) (defBody st) (defScope st) .none kV doc pm an cdv ct) := ⟨⟨oc, od, kV, doc, pm, an, cdv, ct, osl, rfl, l, c⟩, k⟩
end
theorem hu_of {A : Around} {k : Nat} (hr : Room k A) : A.units + 1 < cLine := Nat.lt_of_le_of_lt (Nat.add_le_add_left (by decide : 1 ≤ 64) _) hr.units
theorem small1000 {n : Nat} (h : n ≤ 1000) : n < sizeLine := Nat.lt_of_le_of_lt h (by decide)

/-! ### expressions in short: the name that stands in the i-th slot -/
section
variable {X : Cx}
theorem pv (i : Nat) {x : Str} {pos : Pos} (hN : X.N[i]? = some x := by rfl) (hv : Vis X.env.scope x := by first | exact Or.inl rfl | exact Or.inr (Or.inl rfl) | exact Or.inr (Or.inr rfl)) (hd : (x == ("__debug__" : Str)) = false := by decide)
    (hcd : (x == ("__classdict__" : Str)) = false := by decide) : PE X (.Name x pos) (tVar i) := pe_var hN hv hd hcd
end

/-! ### tests -/
theorem iteF {A B : Prop} (h : B) : if false = true then A else B := by
  rw [if_neg Bool.false_ne_true]
  exact h
theorem iteT {A B : Prop} (h : A) : if true = true then A else B := by
  rw [if_pos rfl]
  exact h
theorem ite2 {c A B : Prop} [Decidable c] (h1 : c → A) (h2 : ¬ c → B) : if c then A else B := by
  by_cases h : c
  · rw [if_pos h]
    exact h1 h
  · rw [if_neg h]
    exact h2 h
theorem iteNS {c A B : Prop} [Decidable c] (hc : c) (h : B) : if (!decide c) = true then A else B := by
  rw [decide_eq_true hc]
  exact iteF h

/-! ### heaps -/
/-- all that was tracked is as it was -/
def Same (H H' : Hp) : Prop := ∀ b o, H b = some o → H' b = some o
theorem Same.refl (H : Hp) : Same H H := fun _ _ h => h
theorem Same.trans {H H1 H2 : Hp} (a : Same H H1) (b : Same H1 H2) : Same H H2 := fun c o h => b c o (a c o h)
theorem Same.free {H H' : Hp} (e : Same H H') {l : Addr} (h : H' l = Option.none) : H l = Option.none := by
  cases q : H l with
  | none => rfl
  | some o =>
    rw [e l o q] at h
    cases h
theorem Same.seq {K : PySem.W.Frag} {H H' : Hp} {a : Addr} {xs : List V} (e : Same H H') (h : SqL K H a xs) : SqL K H' a xs := by
  rcases h with (h | ⟨o, h⟩) | h
  · exact .inl (.inl (e _ _ h))
  · exact .inl (.inr ⟨o, e _ _ h⟩)
  · exact .inr h

/-! ### a dict's pairs: keys that differ -/
section
variable {κ : Type} [DecidableEq κ]
theorem nd_snoc : ∀ {l : List κ} {k : κ}, l.Nodup → ¬ k ∈ l → (l ++ [k]).Nodup
  | [], k, _, _ => by simp
  | a :: r, k, h, hk => by
    obtain ⟨h1, h2⟩ := List.nodup_cons.mp h
    show (a :: (r ++ [k])).Nodup
    refine List.nodup_cons.mpr ⟨fun m => ?_, nd_snoc h2 fun m => hk (List.mem_cons.mpr (Or.inr m))⟩
    rcases List.mem_append.mp m with q | q
    · exact h1 q
    · exact hk (List.mem_cons.mpr (Or.inl (List.mem_singleton.mp q).symm))
end
/-! ### lists -/
theorem nd_ix {α : Type} {l : List α} (hN : l.Nodup) {i j : Nat} {x : α} (a : l[i]? = some x) (b : l[j]? = some x) : i = j := by
  obtain ⟨h1, e1⟩ := List.getElem?_eq_some_iff.mp a
  obtain ⟨h2, e2⟩ := List.getElem?_eq_some_iff.mp b
  exact (List.getElem_inj hN).mp (e1.trans e2.symm)
/-- a new instance and its __init__ leave all that was tracked as it was -/
theorem Same.made {H H1 : Hp} {x dx C : Addr} (nx : H x = Option.none) (nd : H dx = Option.none) (k : ∀ b o, (upd (upd H dx (.own x)) x (.ins C dx [])) b = some o → b ≠ x → H1 b = some o) : Same H H1 := fun b o e =>
  k b o (by rw [upd_ne (ne_of_none e nx), upd_ne (ne_of_none e nd)]; exact e) (ne_of_none e nx)
end L2


set_option Elab.async false
set_option linter.all false
set_option maxRecDepth 100000
set_option maxHeartbeats 4000000
namespace PySem.EX
open Sem (wp)
abbrev excObj (C t : Addr) (dx : Option Addr) : Obj := { cls := .ref C, dict := dx, data := .fields #[.ref t, .none, .none, .none, .bool false, .none] }
section
variable {prog : Program} {w : World} {A : Around} {R : Result → Shared → Prop} {h : Heap} {g : Array GenState} {d : Drawn} {t : Nat} {os : OsState}
variable {nm q : Str} {C N : Addr} {bs bm bmB : List Value} {hdct : Bool} {sn : List Str} {sub : List Value} {ab : Bool} {col : Option Bool} {dd : Option Addr} {k0 k1 k2 k3 k5 : Option Value} {B newId initId : String}


end

section
variable {prog : Program} {w : World} {A : Around} {E : Value → Shared → Prop} {h : Heap} {g : Array GenState} {d : Drawn} {t : Nat} {os : OsState}
variable {nm q : Str} {C N : Addr} {bs bm bmB : List Value} {hdct : Bool} {sn : List Str} {sub : List Value} {ab : Bool} {col : Option Bool} {dd : Option Addr} {k0 k1 k2 k3 k5 : Option Value} {B newId initId : String}



end
end PySem.EX


set_option Elab.async false
set_option linter.all false
set_option maxRecDepth 100000
set_option maxHeartbeats 4000000
namespace PySem.EX
open Sem (wp)
open PySem.W

/-- what is asked of the base's own __init__ -/
structure InitFacts (B initId : String) : Prop where
  ty : typeOf (.builtin initId) = pure (.type "wrapper_descriptor")
  owner : ".".intercalate (initId.cutAt '.').dropLast = B
  quiet : initId.startsWith "lifetime." = false
section
variable {prog : Program} {w : World} {M : Model} {A : Around} {E : Value → Shared → Prop} {h : Heap} {g : Array GenState} {d : Drawn} {t : Nat} {os : OsState}
variable {nm q : Str} {C N : Addr} {bs bm bmB : List Value} {hdct : Bool} {sn : List Str} {sub : List Value} {ab : Bool} {col : Option Bool} {dd : Option Addr} {k0 k1 k2 k3 k5 : Option Value} {B newId initId : String}



end
end PySem.EX


set_option Elab.async false
set_option linter.all false
set_option maxRecDepth 100000
set_option maxHeartbeats 4000000
namespace PySem.EX
open Sem (wp)
open PySem.W
open Builtin Builtin.ObjectAttr
/-- what of the text a class of errors must have, for its attributes -/
structure XCls (K : Frag) (C : Addr) : Prop where
  ga : findIn K (.ref C) "__getattribute__" = some (some (.builtin "BaseException.__getattribute__"))
  gt : findIn K (.ref C) "__getattr__" = some none
  be : mroIn K C (.type "BaseException") = some true
  ob : mroIn K C (.type "object") = some true
  hd : hasDictIn K C = true
  sa : findIn K (.ref C) "__setattr__" = some (some (.builtin "object.__setattr__"))
  cl : findIn K (.ref C) "__class__" = some (some (.builtin "object.__class__"))
  cg : specialIn K (.builtin "object.__class__") "__get__" = some (some (.builtin "getset_descriptor.__get__"))
  ct : takesIn K (.builtin "object.__class__") = some true
  rf : ∀ cd, clsIn K C = some cd → ∀ self, refuseLoop self "__setattr__" cd.mro = pure ()
section
variable {prog : Program} {w : World} {A : Around} {E : Value → Shared → Prop} {h : Heap} {g : Array GenState} {d : Drawn} {t : Nat} {os : OsState} {K : Frag} {x C : Addr} {ox : Obj} {od : Option Obj} {name : Str}
theorem gaCheck (c : XCls K C) (X : K.In h) (I : InstAt h x ox C od) {nameV : Value} {Q : Unit → Shared → Prop} (hq : Q () ⟨h, g, d, t, os⟩) :
    wpAny (model prog w) A (checkBuiltinCall "BaseException.__getattribute__" ⟨[.ref x, nameV], []⟩) Q E ⟨h, g, d, t, os⟩ := by
  have hk : builtinKind "BaseException.__getattribute__" = some .slot := by decide +kernel
  have hsplit : splitId "BaseException.__getattribute__" = some ("BaseException", "__getattribute__") := by decide +kernel
  have ha := F.args_bexc_ga (.ref x) nameV
  have L : Looks (model prog w) h (isInstance (.ref x) (.type "BaseException")) true := I.type.andThen (looks_mroIn X c.be)
  exact @check_slot (model prog w) _ _ ⟨h, g, d, t, os⟩ "BaseException.__getattribute__" "BaseException" "__getattribute__" (.ref x) [nameV] [] _ hk hsplit L ha hq
theorem gaBy (c : XCls K C) (X : K.In h) (I : InstAt h x ox C od) {tk : Tok} {fill expr : Bool} {Q : Value → Shared → Prop}
    (hq : wpAny (model prog w) A.in1 (Builtin.«object.__getattribute__» ⟨[.ref x, .str name tk], []⟩) (fun fin s' => match fin with | .done (.ret v) => wpAny (model prog w) A (handedOut v) Q E s' | .done _ => False | .again cc => cc.quiet = true ∧ codeAny (model prog w) A cc (fun r s'' => match r with | .ok (.ret v) => wpAny (model prog w) A (handedOut v) Q E s'' | _ => False) s') (fun _ _ => False) ⟨h, g, d, t, os⟩) :
    wpAny (model prog w) A (getAttrBy (.ref x) (.str name tk) fill expr) Q E ⟨h, g, d, t, os⟩ := by
  have L0 := I.type (M := model prog w)
  have L1 := looks_findIn (M := model prog w) X c.ga
  have L2 := looks_findIn (M := model prog w) X c.gt
  unfold getAttrBy
  refine wpAny_holding (wpAny_bind (L0.at (wpAny_bind (L1.at ?_))))
  show wpAny _ _ (getAttrByItsOwn (.ref x) (.str name tk) (.ref C) (.builtin "BaseException.__getattribute__") fill expr) _ _ _
  unfold getAttrByItsOwn hookBefore callGetattribute boundAndCalled
  refine wpAny_bind ?_
  show wpAny _ _ (typeLookup (.ref C) "__getattr__") _ _ _
  refine L2.at ?_
  refine wpAny_bind (wpAny_attempt (wpAny_holding ?_))
  rw [if_neg (by cases expr <;> decide)]
  refine wpAny_bind (wpAny_of_eq (F.attr_ValueError.ga.bind _) ?_)
  refine wpAny_call (codeAny_call_builtin F.attr_ValueError.ga.plain F.entry_bexc_ga (gaCheck c X I ?_))
  refine wpAny_mono hq (fun fin s' z => ?_) fun _ _ z => z.elim
  rcases fin with (_ | _ | _ | _) | cc
  all_goals first
    | exact z
    | exact z.elim
    | (refine ⟨z.1, codeAny_mono z.2 fun r s'' z2 => ?_⟩
       rcases r with e | (_ | _ | _ | _) <;> first | exact z2 | exact z2.elim)
theorem classX (c : XCls K C) (X : K.In h) (I : InstAt h x ox C od) {Q : Option Value → Shared → Prop} (hq : Q (some (.ref C)) ⟨h, g, d, t + 1, os⟩) :
    wpAny (model prog w) A (getAttr? (.ref x) "__class__") Q E ⟨h, g, d, t, os⟩ := by
  have hf : findObj K C od "__class__" = some (.bind (.builtin "getset_descriptor.__get__") (.builtin "object.__class__")) := by
    obtain ⟨cd, hc, _⟩ := any_some c.hd
    unfold findObj
    rw [hc, Option.bind_some, c.cl, Option.bind_some]
    dsimp only
    rw [c.cg, Option.bind_some]
    dsimp only
    rw [c.ct, Option.bind_some]
  unfold getAttr? getAttrBy?
  refine wpAny_bind (wpAny_mkText (wpAny_bind (wpAny_attempt (gaBy c X I ?_))))
  have L0 := I.type (M := model prog w)
  have L1 := looks_find (M := model prog w) X I hf
  refine wpAny_bind (wpAny_pure (wpAny_bind (wpAny_pure (wpAny_bind (L0.at (wpAny_bind (L1.at ?_)))))))
  show wpAny _ _ (bindTo (.builtin "getset_descriptor.__get__") (.builtin "object.__class__") (.ref x) (.ref C)) _ _ _
  unfold bindTo
  dsimp only
  refine wpAny_bind (wpAny_holding (wpAny_call (class_get (s := ⟨h, g, d, t + 1, os⟩) X I c.ob ?_)))
  refine wpAny_pure ?_
  show wpAny _ _ (handedOut (.ref C)) _ _ _
  rw [handedOut_of rfl]
  exact wpAny_pure (wpAny_pure hq)
theorem kitX (c : XCls K C) : KitX K (.ref x) (.ref C) (fun h => ∃ ox od, InstAt h x ox C od) where
  ty := fun _ _ _ ⟨_, _, I⟩ => I.type
  it := fun _ _ X _ => by
    obtain ⟨cdD, hcD, _⟩ := any_some c.hd
    unfold clsIn at hcD
    split at hcD
    · rename_i c' d' cd' sl' ho
      intro A' Q' E' s' k q
      unfold isType loadHead
      exact wpAny_bind (wpAny_loadPart (k _ _ (X _ _ ho)) (wpAny_pure q))
    · cases hcD
  ne := fun h tp dd its n sl X htp => by
    obtain ⟨cdD, hcD, _⟩ := any_some c.hd
    refine Bool.eq_false_iff.mpr fun q => ?_
    have e : C = tp := Value.ref.inj (beq_iff_eq.mp q)
    subst e
    unfold clsIn at hcD
    split at hcD
    · rename_i c' d' cd' sl' ho
      have z := (X _ _ ho).symm.trans htp
      cases z
    · cases hcD
  ca := fun {_ _ _ _ _ s} X ⟨_, _, I⟩ k => by
    obtain ⟨h, g, d, t, os⟩ := s
    exact classX c X I k


end
end PySem.EX


set_option Elab.async false
set_option linter.all false
set_option maxRecDepth 100000
set_option maxHeartbeats 4000000
namespace L2
open PySem PySem.Spec PyProof.Rows
/-- an error of the class at C, its dict at dx where it has one -/
def XO (e C : Addr) (dx : Option Addr) : HO := .ext fun h => ∃ t, h.get? e = some (EX.excObj C t dx)
/-- the dict of an error -/
def XD (d : Addr) (fs : List (Str × V)) : HO := .ext fun h => ∃ mA, h.Ns1 d mA ∧ (∀ f, RelO (fs.lookup f) (mA f)) ∧ PySem.Within mA (fs.map (·.1))
section
variable {P : Program} {w : World} {H : Hp} {h : Heap} {e C d : Addr} {dx : Option Addr} {fs : List (Str × V)}
theorem xd_get (ok : HOk P w H h) (q : H d = some (XD d fs)) : ∃ mA, h.Ns1 d mA ∧ (∀ f, RelO (fs.lookup f) (mA f)) ∧ PySem.Within mA (fs.map (·.1)) := (ok d _ q).1
end
section
variable {X : Cx} {pins : List (Addr × Obj)} {σ : St} {H : Hp} {s : Shared} {h' : Heap} {e d : Addr} {oE oD : HO}
end
/-- the decider: a class of errors, straight or not under a built-in one; ini: its own __init__ -/
def xin (K : PySem.W.Frag) (C : Addr) (bmB : List Value) (newId : String) (ini : Option Addr) : Bool := match K.lookup C with
  | some ⟨.type "type", _, .cls cd, sl⟩ => (match cd.mro, sl.toList with
    | .ref C' :: bm, [_, _, _, _, some (.builtin n), _] => C' == C && n == newId && !cd.hasDel && PySem.W.tailIn K bmB bm && PySem.W.nsOkIn K cd.ns && PySem.W.nsIn K cd.ns "__init__" == some (ini.map .ref)
    | _, _ => false)
  | _ => false
/-- what is asked of a class of errors -/
structure XMk (K : PySem.W.Frag) (C : Addr) (ini : Option Addr) (B newId initId : String) (bmB : List Value) : Prop where
  F : ExcBaseFacts B newId initId bmB
  FI : EX.InitFacts B initId
  inn : xin K C bmB newId ini = true
  cl : EX.XCls K C
  kp : PySem.W.keepIn K (.ref C) = true
  fn : ∀ f, ini = some f → PySem.W.isFn K (.ref f) = true
section
variable {X : Cx} {CX : CXT} {k : Nat} {f C : Addr} {fd : FuncData} {ps : List Str} {sp : Sp} {dvs : List V} {ds : List Value} {E : XK} {x : Str} {p pos : Pos} {e : Expr} {es : List Expr} {t : TA} {B newId initId : String} {bmB : List Value}
end
end L2


set_option Elab.async false
set_option linter.all false
set_option maxRecDepth 100000
set_option maxHeartbeats 4000000
namespace PySem.EX
open Sem (wp)
section
variable {prog : Program} {w : World} {A : Around} {E : Value → Shared → Prop} {h : Heap} {g : Array GenState} {d : Drawn} {t : Nat} {os : OsState}
variable {nm q : Str} {C N : Addr} {bs bm bmB : List Value} {hdct : Bool} {sn : List Str} {sub : List Value} {ab : Bool} {col : Option Bool} {dd : Option Addr} {k0 k1 k2 k3 k5 : Option Value} {B newId initId : String}
end
end PySem.EX
namespace L2
open PySem PySem.Spec PyProof.Rows
section
variable {X : Cx} {CX : CXT} {k : Nat} {f C : Addr} {fd : FuncData} {ps : List Str} {sp : Sp} {dvs : List V} {ds : List Value} {E : XK} {x : Str} {p pos : Pos} {e : Expr} {es : List Expr} {t tk : TA} {B newId initId : String} {bmB : List Value} {kws : List Keyword} {ks : List Str}
end
end L2


set_option Elab.async false
set_option linter.all false
set_option maxRecDepth 100000
set_option maxHeartbeats 4000000
namespace L2
open PySem PySem.Spec PyProof.Rows
section
variable {X : Cx} {pins : List (Addr × Obj)} {σ : St} {H : Hp} {s : Shared} {a C d : Addr} {dx : Option Addr} {fs : List (Str × V)} {f : Str} {v : V} {A : Around} {E : Value → Shared → Prop}
end
section
variable {X : Cx} {pins : List (Addr × Obj)} {σ : St} {H : Hp} {s : Shared} {A : Around} {E : Value → Shared → Prop} {Q : Value → Shared → Prop} {c : Value} {b : Bool}
/-- a class as a value -/
def clsV : V → Value → Prop
  | .ref C, u => u = .ref C
  | .ty n, u => u = .type n
  | _, _ => False
/-- what isinstance looks at -/
inductive TyX (K : PySem.W.Frag) (H : Hp) : V → Value → Prop where
  | old {x : V} {t : Value} (h : TyOf K H x t) : TyX K H x t
  | exc {a C : Addr} {dx : Option Addr} (e : H a = some (XO a C dx)) (hd : ∀ d, dx = some d → ∃ fs, H d = some (XD d fs)) (cl : EX.XCls K C) : TyX K H (.ref a) (.ref C)
end
end L2


set_option Elab.async false
set_option linter.all false
set_option maxRecDepth 100000
set_option maxHeartbeats 4000000
namespace L2
open PySem PySem.Spec PyProof.Rows
/-- what a field of a text may hold here -/
def Fmt (H : Hp) (v : V) : Prop := (∃ i : Int, v = .int i ∧ i.natAbs < 10 ^ 40) ∨ ∃ (a : Addr) (ns : List Int), v = .ref a ∧ H a = some (.tup (ns.map V.int)) ∧ ns.length ≤ 300 ∧ ∀ n ∈ ns, n.natAbs < 10 ^ 40
section
variable {X : Cx} {pins : List (Addr × Obj)} {σ : St} {H : Hp} {s : Shared} {k : Nat}
/-- the parts of an f-string, the sum of their lengths at the most -/
inductive FParts (X : Cx) : List Expr → Nat → (St → Hp → (Hp → Prop) → Prop) → Prop where
  | nil : FParts X [] 0 fun _ H Q => Q H
  | txt {x : Str} {j : Nat} {pos : Pos} {es : List Expr} {n : Nat} {t : St → Hp → (Hp → Prop) → Prop} : FParts X es n t → FParts X (.Constant (.str x) j pos :: es) (x.length + n) t
  | fld {e : Expr} {te : TE} {pos : Pos} {es : List Expr} {n : Nat} {t : St → Hp → (Hp → Prop) → Prop} : PE X e te → FParts X es n t → FParts X (.FormattedValue e (-1) none pos :: es) (2000000 + n) fun σ H Q => te σ H fun v H1 => Fmt H1 v ∧ t σ H1 Q
end
end L2


set_option Elab.async false
set_option linter.all false
set_option maxRecDepth 100000
set_option maxHeartbeats 4000000
namespace L2
open PySem PySem.Spec PyProof.Rows
/-- names of a method that speaks of super() -/
structure SupScope (N P : List Str) (sc : Scope) : Prop where
  kind : sc.kind = .function
  co : sc.isCoroutine = false
  gen : sc.isGenerator = false
  nd : N.Nodup
  pre : N.take P.length = P
  par : ∀ x ∈ P, sc.names.lookup x = some .local
  nocell : ∀ y ∈ sc.names, y.2 ≠ .cell
  onefree : ∀ y ∈ sc.names, y.2 = .free → y.1 = "__class__"
  sup : sc.names.lookup ("super" : Str) = some .globalImplicit
  cls : sc.names.lookup ("__class__" : Str) = some .free
end L2


set_option Elab.async false
set_option linter.all false
set_option maxRecDepth 100000
set_option maxHeartbeats 400000
namespace L2
open PySem PySem.Spec PyProof.Rows
/-- what of the text is asked for super().__init__ in the __init__ at f of the class at C -/
structure SupFacts (P : Program) (K : PySem.W.Frag) (mg : Str → Option Value) (C f cda cc : Addr) (fd : FuncData) (me : Str) (B initId : String) : Prop where
  fn : ∃ oc od osl, K.lookup f = some ⟨oc, od, .func fd, osl⟩
  par : ∃ ar, (fd.params.posonlyargs ++ fd.params.args).head? = some ar ∧ ar.arg = me
  code : ∃ ccl cdd vs ccs file tf, K.lookup cda = some ⟨ccl, cdd, .fields vs, ccs⟩ ∧ vs[2]? = some (.str file tf) ∧ ((P.main.file : Str) == file) = true
  cell : ∃ cl cld csl, K.lookup cc = some ⟨cl, cld, .cell (some (.ref C)), csl⟩
  cls : ∃ cd, PySem.W.clsIn K C = some cd
  sub : PySem.W.mroIn K C (.ref C) = some true
  subB : PySem.W.mroIn K C (.type B) = some true
  mgs : mg "super" = none
  top : (P.main.scope.names.lookup ("super" : Str)).isSome = false
  ini : PySem.W.ks_superIn K C C "__init__" = some (some (.builtin initId))
  opq : PySem.W.nsIn K cStatics "thirdparty.any" = some none
section
variable {CX : CXT} {P : Program} {w : World} {K : PySem.W.Frag} {mg : Str → Option Value} {base : Heap} {N ps : List Str} {qual me : Str} {scope : Scope} {f cda cc C e : Addr} {A : Around} {outer : List Env} {s0 s : Shared} {H0 H : Hp} {E : XK} {fd : FuncData} {B newId initId : String} {bmB : List Value} {dx : Option Addr} {body : List Stmt} {p0 p1 apos pos epos : Pos} {arg : Expr} {te : TE} {pins : List (Addr × Obj)} {σ : St} {W : Hp → Prop}
end
end L2


set_option Elab.async false
set_option linter.all false
set_option maxRecDepth 100000
set_option maxHeartbeats 400000
namespace L2
open PySem PySem.Spec PyProof.Rows
end L2


set_option Elab.async false
set_option linter.all false
set_option maxRecDepth 100000
set_option maxHeartbeats 1000000
namespace L2
open PySem PySem.Spec PyProof.Rows
/-! ### an error that was raised: its record and the entry of its trace -/
def Rec (h : Heap) (e C : Addr) (dx : Option Addr) (vs : Array Value) : Prop := ∃ o, h.get? e = some o ∧ o.cls = .ref C ∧ o.dict = dx ∧ o.data = .fields vs
def Trc (h : Heap) (T : Addr) (fl : Value) : Prop := ∃ o ts, h.get? T = some o ∧ o.data = .fields ts ∧ ts[3]? = some fl
/-- a raised error of the class at C, its dict at dx where it has one -/
def XR (e C : Addr) (dx : Option Addr) : HO := .ext fun h => ∃ vs, Rec h e C dx vs
theorem xr_get {P : Program} {w : World} {H : Hp} {h : Heap} {e C : Addr} {dx : Option Addr} (ok : HOk P w H h) (q : H e = some (XR e C dx)) : ∃ vs, Rec h e C dx vs := (ok e _ q).1
/-- what an entry leaves -/
structure Note (fr : List Addr) (h h' : Heap) (e C : Addr) (dx : Option Addr) (old : List Addr) (fl : Value) : Prop where
  keep : ∀ b o, b ∉ fr → b ≠ e → b ∉ old → h.get? b = some o → h'.get? b = some o
  slot : ∀ b o, b ∈ fr → h.get? b = some o → ∃ sl, h'.get? b = some { o with slots := sl }
  there : ∀ b o, h.get? b = some o → ∃ o', h'.get? b = some o'
  rc : ∃ vs T, Rec h' e C dx vs ∧ vs[1]? = some (.ref T) ∧ h.objs.size ≤ T ∧ Trc h' T fl
section
variable {M : Model} {A : Around} {E : Value → Shared → Prop} {s : Shared} {base : Heap} {env : Env} {outer : List Env} {L e C : Addr} {dx : Option Addr} {vs : Array Value}
theorem nofr {h : Heap} {b : Addr} {o : Obj} {ws : Array Value} {l : List Env} (hl : h.FunFrames base l) (g : h.get? b = some o) (hd : o.data = .fields ws) : b ∉ frs l := fun hm => by
  obtain ⟨_, o', ho, hn⟩ := hl.mem hm
  rw [g] at ho
  cases ho
  exact hn ws hd
theorem Note.apart {fr : List Addr} {h h' : Heap} {old : List Addr} {fl : Value} {oe : Obj} (n : Note fr h h' e C dx old fl) (ge : h.get? e = some oe) : ∃ vs T, Rec h' e C dx vs ∧ vs[1]? = some (.ref T) ∧ h.objs.size ≤ T ∧ Trc h' T fl ∧ T ≠ e := by
  obtain ⟨vs, T, r, h1, hz, t⟩ := n.rc
  exact ⟨vs, T, r, h1, hz, t, Ne.symm (Nat.ne_of_lt (Nat.lt_of_lt_of_le (Heap.lt_size ge) hz))⟩
end
/-! ### the state behind an entry -/
section
variable {X : Cx} {pins : List (Addr × Obj)} {σ : St} {H : Hp} {s : Shared} {h' : Heap} {e C : Addr} {dx : Option Addr} {old : List Addr} {fl : Value}
end
end L2


set_option Elab.async false
set_option linter.all false
set_option maxRecDepth 100000
set_option maxHeartbeats 1000000
namespace L2
open PySem PySem.Spec PyProof.Rows
/-! ### how a raised error lies behind a call -/
section
variable {cm : Bool} {P : Program} {w : World} {K : PySem.W.Frag} {mg : Str → Option Value} {base : Heap} {N : List Str} {qual : Str} {scope : Scope} {f : Addr} {cd : Value} {A : Around} {outer : List Env} {s0 : Shared} {H0 : Hp} {E : XK}
end
/-! ### raise -/
end L2


set_option Elab.async false
set_option linter.all false
set_option maxRecDepth 100000
set_option maxHeartbeats 1000000
namespace L2
open PySem PySem.Spec PyProof.Rows
/-! ### except (C, D) as e: return .. -/
section
variable {X : Cx} {pins : List (Addr × Obj)} {σ : St} {H : Hp} {s : Shared} {E : Value → Shared → Prop} {v : Value}
/-- the frame's names are forgotten -/
theorem Inv.lost {h' : Heap} {t' : Nat} {m' : Str → Option Value} (I : Inv X pins σ H s) (hn : h'.Ns X.env.locals m') (hs : Heap.SameBut X.env.locals s.heap h') : Inv X pins (List.replicate X.N.length none) H { s with heap := h', toks := t' } := by
  obtain ⟨m, ⟨oL, es, ep, hoL, hr⟩, _⟩ := id I.loc
  have ab : ∀ b o, X.s_0.heap.get? b = some o → b ≠ X.env.locals := fun b o q => Nat.ne_of_lt (Nat.lt_of_lt_of_le (Heap.lt_size q) I.ok.above)
  refine ⟨I.ok, I.os, I.bare, ⟨fun b o q n hb hx => (hs.2 b (ab b o q)).trans (I.base.keep b o q n hb hx), fun b o q n hb hx => ?_, I.base.free, fun b o q hx => ?_, I.base.tups, I.base.frzs, I.base.tbls⟩, ⟨m', hn, fun i x v e1 e2 e3 => ?_⟩, fun x c e => ?_, I.free, I.freeC, fun p hp => ?_, fun b u q => ?_, by simp⟩
  · obtain ⟨sl, q1⟩ := I.base.slot b o q n hb hx
    exact ⟨sl, (hs.2 b (ab b o q)).trans q1⟩
  · obtain ⟨o', q1⟩ := I.base.there b o q hx
    exact ⟨o', (hs.2 b (ab b o q)).trans q1⟩
  · rw [List.getElem?_replicate] at e2
    split at e2 <;> cases e2
  · obtain ⟨w', z⟩ := I.cell x c e
    exact ⟨w', z.sameBut hs (I.cne x c e)⟩
  · obtain ⟨e, n, ne, nf, d⟩ := I.pin p hp
    exact ⟨(hs.2 p.1 ne).trans e, n, ne, nf, d⟩
  · refine (I.hok b u q).stay (fun c w' hc r => (hs.2 c ?_).trans r) (fun _ r => r) fun _ _ r => r
    rintro rfl
    rcases hc with z | z
    · rw [← z, I.free] at q; cases q
    · rw [I.free] at z; cases z
end
/-- a class that except may name -/
structure ExcC (K : PySem.W.Frag) (D : Addr) : Prop where
  cls : ∃ cd, PySem.W.clsIn K D = some cd
  be : PySem.W.mroIn K D (.type "BaseException") = some true
section
variable {M : Model} {A : Around} {E : Value → Shared → Prop} {s : Shared} {K : PySem.W.Frag} {a p C D1 D2 : Addr} {dx : Option Addr} {vs : Array Value} {b1 b2 : Bool}
end
section
variable {X : Cx} {body suite : List Stmt} {b0 : Stmt} {pos hpos p1 p2 tp : Pos} {n1 n2 v : Str} {i : Nat} {D1 D2 : Addr} {tb : XK → TS} {th : TS} {c}
end
end L2


set_option Elab.async false
set_option linter.all false
set_option maxRecDepth 100000
set_option maxHeartbeats 1000000
namespace L2
open PySem PySem.Spec PyProof.Rows
section
variable {X : Cx} {pins : List (Addr × Obj)} {σ : St} {H : Hp} {s : Shared} {a C d : Addr} {dx : Option Addr} {fs : List (Str × V)} {f : Str} {v : V} {A : Around} {E : Value → Shared → Prop}
theorem rec_inst {h : Heap} {vs : Array Value} (r : Rec h a C none vs) : ∃ o, PySem.W.InstAt h a o C none := by
  obtain ⟨⟨c, dd, dt, sl⟩, g, hc, hdx, hd⟩ := r
  cases hc; cases hdx; cases hd
  exact ⟨_, g, rfl, rfl, trivial⟩
theorem rec_inst2 {h : Heap} {vs : Array Value} {od : Obj} (r : Rec h a C (some d) vs) (g2 : h.get? d = some od) : ∃ o, PySem.W.InstAt h a o C (some od) := by
  obtain ⟨⟨c, dd, dt, sl⟩, g, hc, hdx, hd⟩ := r
  cases hc; cases hdx; cases hd
  exact ⟨_, g, rfl, rfl, g2⟩
end
section
variable {X : Cx} {pins : List (Addr × Obj)} {σ : St} {H : Hp} {s : Shared} {A : Around} {E : Value → Shared → Prop} {Q : Value → Shared → Prop} {c : Value} {b : Bool}
theorem isinst_r {a C : Addr} {dx : Option Addr} (I : Inv X pins σ H s) (e : H a = some (XR a C dx)) (hd : ∀ d, dx = some d → ∃ fs, H d = some (XD d fs)) (cl : EX.XCls X.K C) (k : PySem.W.kitOne X.K (.ref C) c = some b) (h : ∀ tk, Q (.bool b) { s with toks := tk }) :
    wpAny (model X.prog X.w) A (call (.builtin "isinstance") [.ref a, c]) Q E s := by
  obtain ⟨vs, g⟩ := xr_get I.hok e
  refine PySem.W.kia_one (EX.kitX cl) I.kIn ?_ k (fun z => nomatch z) h
  cases dx with
  | none =>
    obtain ⟨o, J⟩ := rec_inst g
    exact ⟨_, _, J⟩
  | some d =>
    obtain ⟨fs, q⟩ := hd d rfl
    obtain ⟨mA, ⟨od, es, ep, g2, _⟩, _⟩ := xd_get I.hok q
    obtain ⟨o, J⟩ := rec_inst2 g g2
    exact ⟨_, _, J⟩
/-- what isinstance looks at, raised errors among them -/
inductive TyR (K : PySem.W.Frag) (H : Hp) : V → Value → Prop where
  | old {x : V} {t : Value} (h : TyOf K H x t) : TyR K H x t
  | rai {a C : Addr} {dx : Option Addr} (e : H a = some (XR a C dx)) (hd : ∀ d, dx = some d → ∃ fs, H d = some (XD d fs)) (cl : EX.XCls K C) : TyR K H (.ref a) (.ref C)
def rIsr (K : PySem.W.Frag) : List V → Hp → VK → Prop := fun vs H Q => ∃ x cv t c b, vs = [x, cv] ∧ TyR K H x t ∧ clsV cv c ∧ PySem.W.kitOne K t c = some b ∧ Q (.bl b) H
theorem call_isr : CallR X (.builtin "isinstance") (rIsr X.K) := by
  intro pins s σ H vs us Q I r h
  obtain ⟨x, cv, t, c, b, rfl, ty, hc, k, q⟩ := h
  cases r with
  | cons r1 r2 =>
    cases r2 with
    | cons r3 r4 =>
      cases r4
      rename_i u1 u2
      have ec : u2 = c := by
        cases cv <;> first | exact (show u2 = _ from r3).trans (show c = _ from hc).symm | exact False.elim hc
      subst ec
      cases ty with
      | old ty => exact isinst_ok I r1 ty k fun tk => ⟨.bl b, H, I.tok tk, rfl, q⟩
      | rai e hd cl =>
        cases (show u1 = _ from r1)
        exact isinst_r I e hd cl k fun tk => ⟨.bl b, H, I.tok tk, rfl, q⟩
end
/-! ### repr of data -/
section
variable {X : Cx} {k : Nat}
def rRepr (K : PySem.W.Frag) : List V → Hp → VK → Prop := fun vs H Q => ∃ x d, vs = [x] ∧ Dp K H x d ∧ d.showable = true ∧ d.hasDict = false ∧ isDisplay d = true ∧ d.depth ≤ 60 ∧ d.shown.length ≤ sizeLine ∧ Q (.str d.shown) H
theorem call_repr (hr : Room k X.A) : CallR X (.builtin "repr") (rRepr X.K) := by
  intro pins s σ H vs us Q I r h
  obtain ⟨x, d, rfl, dp, hs, hn, hd, hdp, hz, q⟩ := h
  cases r with
  | cons r1 r2 =>
    cases r2
    obtain ⟨as, r3⟩ := Dp.reads I d _ _ dp r1
    obtain ⟨a, rfl⟩ := isRef_of_reads r3 hd
    exact repr_of_reads' r3 hs (PyData.noDict_hsm hn) hr.gd (by have := hr.un; omega) (fun _ _ e => e) (fun h' u tk hk => ⟨.str d.shown, H, I.kept (t' := tk) hk, ⟨_, rfl⟩, q⟩) hz
end
end L2


set_option Elab.async false
set_option linter.all false
set_option maxRecDepth 100000
set_option maxHeartbeats 1000000
namespace HT
open PySem PySem.Spec PyProof.Rows
section
variable {prog : Program} {w : World} {A : Around} {E : Value → Shared → Prop} {s : Shared}
/-- t[a:b] where it is the whole of t: t itself -/
theorem getItem_tuple_whole {t sl : Addr} {items : Array Value} {vl vu : Value} {lo hi : Option Int} {Q : Value → Shared → Prop} (ht : IsTup s.heap t items) (hs : s.heap.IsSliceOf sl vl vu .none) (pl : IsPart vl lo) (pu : IsPart vu hi)
    (hw : sIx items.size 0 lo = 0 ∧ sIx items.size items.size hi = items.size) (h : Q (.ref t) s) : wpAny (model prog w) A (getItem (.ref t) (.ref sl)) Q E s := by
  obtain ⟨os, hos, hcs, hds⟩ := id hs
  have hTs : s.TypeIs (.ref sl) "slice" := ⟨os, hos, hcs⟩
  unfold getItem
  try with_reducible refine wpAny_holding ?_
  first | refine wpAny_bind (wpAny_pure ?_) | skip
  refine wpAny_bind (wpAny_sequenceKey ht.typeIs (by decide) ?_)
  refine wpAny_bind (wpAny_callSpecial?_slot (name := Str.ofString "__getitem__") ht.typeIs PyProof.Rows.slot_tuple_getitem
    (wpAny_call_entry PyProof.Rows.slot_tuple_getitem ht.typeIs entry_tuple_getitem ?_ (args_tuple_getitem _ _)))
  show wpAny _ _ (Builtin.Tuple.tupleItemsOf (.ref t) >>= _) _ _ s
  refine wpAny_bind (tupleItemsOf_ ht ?_)
  refine wpAny_bind (wpAny_typeOf hTs ?_)
  rw [if_pos (by decide)]
  refine wpAny_bind (sliceApplied_gen hs pl pu ?_)
  rw [hw.1, hw.2]
  have yes : (((0 : Nat) : Int) == 0 && (1 : Int) == 1 && (items.size - 0) == items.size) = true := by simp
  show wpAny _ _ (if (((0 : Nat) : Int) == 0 && (1 : Int) == 1 && (items.size - 0) == items.size) = true then _ else _) _ _ s
  rw [if_pos yes]
  unfold Builtin.Tuple.tupleIsExact
  refine wpAny_bind (wpAny_bind (wpAny_typeOf ht.typeIs (wpAny_pure ?_)))
  rw [if_pos (by decide)]
  refine wpAny_bind (wpAny_rule ?_)
  first
    | exact wpAny_bind (wpAny_pure (wpAny_pure ⟨_, rfl, wpAny_pure h⟩))
    | exact wpAny_pure ⟨_, rfl, wpAny_pure h⟩
    | exact wpAny_bind (wpAny_pure ⟨_, rfl, wpAny_pure h⟩)
theorem cat_tup0 {t b : Addr} {ws : List Value} {Q : Value → Shared → Prop} (ht : IsTup s.heap t #[]) (hb : IsTup s.heap b ws.toArray) (h1 : Q (.ref b) s) : wpAny (model prog w) A (binaryOp .Add (.ref t) (.ref b)) Q E s := by
  obtain ⟨⟨cls, dd, data, sl⟩, ho, hc, n, hd⟩ := id ht
  obtain ⟨⟨cls2, dd2, data2, sl2⟩, ho2, hc2, n2, hd2⟩ := id hb
  simp only at hc hd hc2 hd2
  subst hc hd hc2 hd2
  exact concat_meets ⟨_, ho, rfl⟩ ⟨_, ho2, rfl⟩ noFill_tuple_add seq_tuple_add PySem.F.slot_tuple_add PySem.F.entry_tuple_add (PySem.F.args_tuple_add_2 _ _)
      (tuple_addW0 t b #[] ws.toArray n n2 dd dd2 sl sl2 (by rfl)) ⟨ho, ho2, h1⟩
end
end HT
namespace L2
open PySem PySem.Spec PyProof.Rows
theorem same_new {H : Hp} {p : Addr} {o : HO} (h : H p = none) : Same H (upd H p o) := fun b q z => by rw [upd_ne (ne_of_none z h)]; exact z
section
variable {X : Cx}
/-- t[lo:hi], the whole too -/
def rSlW : V → Option Int → Option Int → Hp → VK → Prop := fun x lo hi H Q => ∃ a xs, x = .ref a ∧ H a = some (.tup xs) ∧ ∀ p H', Same H H' → H' p = some (.tup (cutV xs lo hi)) → Q (.ref p) H'
theorem cutV_whole {xs : List V} {lo hi : Option Int} (h : HT.sIx xs.length 0 lo = 0 ∧ HT.sIx xs.length xs.length hi = xs.length) : cutV xs lo hi = xs := by
  unfold cutV
  rw [h.1, h.2]
  simp
theorem sl_tupW : SlR X rSlW := by
  intro pins s σ H x v vl vu lo hi sl Q I rx hs pl pu h
  obtain ⟨a, xs, rfl, hx, q⟩ := h
  by_cases hw : HT.sIx xs.length 0 lo = 0 ∧ HT.sIx xs.length xs.length hi = xs.length
  · cases rx
    obtain ⟨its, r, ht, hz⟩ := I.tuple (SqT.of (K := X.K) hx)
    have hlen : its.toArray.size = xs.length := by rw [List.size_toArray]; exact r.length.symm
    refine ⟨"tuple", _, PyProof.Rows.slot_tuple_getitem.lookup, ht.typeIs, ?_⟩
    refine HT.getItem_tuple_whole ht hs pl pu (by rw [hlen]; exact hw) ⟨.ref a, H, I, rfl, q a H (Same.refl H) ?_⟩
    rw [cutV_whole hw]
    exact hx
  · exact sl_tup pins s σ H (.ref a) v vl vu lo hi sl Q I rx hs pl pu ⟨a, xs, rfl, SqT.of hx, hw, fun p hp => q p _ (same_new hp) upd_same⟩
/-- t + u -/
def rCatW : R2 := fun x y H Q => ∃ a b xs ys, x = .ref a ∧ y = .ref b ∧ H a = some (.tup xs) ∧ H b = some (.tup ys) ∧ xs.length + ys.length ≤ sizeLine ∧ ∀ p H', Same H H' → H' p = some (.tup (xs ++ ys)) → Q (.ref p) H'
theorem op_catW : OpR X (binaryOp .Add) rCatW := by
  intro pins s σ H x y v u Q I rx ry h
  obtain ⟨a, b, xs, ys, rfl, rfl, ha, hb, hz, q⟩ := h
  by_cases hx : xs = []
  · subst hx
    cases rx
    cases ry
    obtain ⟨its, r1, p1, _⟩ := I.tuple (SqT.of (K := X.K) ha)
    obtain ⟨its2, r2, p2, _⟩ := I.tuple (SqT.of (K := X.K) hb)
    cases r1
    exact HT.cat_tup0 p1 p2 ⟨.ref b, H, I, rfl, q b H (Same.refl H) hb⟩
  · exact op_catT pins s σ H (.ref a) (.ref b) v u Q I rx ry ⟨a, b, xs, ys, rfl, rfl, SqT.of ha, SqT.of hb, hx, hz, fun z => q a H (Same.refl H) (by rw [z, List.append_nil]; exact ha), fun _ p hp => q p _ (same_new hp) upd_same⟩
end
end L2


set_option Elab.async false
set_option linter.all false
set_option maxRecDepth 100000
set_option maxHeartbeats 3200000
namespace L2
open PySem PySem.Spec PyProof.Rows
/-! ### set(xs) of texts of which no two are alike -/
def hasK (l : List Str) : Key → Bool
  | .inl _ => false
  | .inr x => l.contains x
section
variable {prog : Program} {w : World} {A : Around} {R : Result → Shared → Prop} {I : Addr} {fp wr : List Addr} {G : Array GenState → Array GenState → Prop} {n : Nat} {P : Nat → Value → Prop} {St : Nat → Shared → Prop}
theorem set_fun {S S' : Key → Bool} {h : Heap} {a : Addr} {m m' : Nat} (x : h.SetOf (mixKind prog w) a S m) (e : ∀ k, S k = S' k) (en : m = m') : h.SetOf (mixKind prog w) a S' m' := by
  have z : S = S' := funext e
  subst z
  subst en
  exact x
theorem set_loop (W : WalksS prog w A.in1 I fp wr G n P St) (S : Addr) (hSf : S ∉ fp) (ks : List Str) (hl : ks.length = n) (nd : ks.Nodup) (hval : ∀ i v, P i v → ∃ x t, ks[i]? = some x ∧ v = .str x t) (hb : n + 1 < scanBound) :
    ∀ (k i : Nat) (s : Shared), n - i = k → i ≤ n → St i s → s.heap.SetOf (mixKind prog w) S (hasK (ks.take i)) i →
      (∀ s', Moved (S :: wr) G s s' → s'.heap.SetOf (mixKind prog w) S (hasK (ks.take n)) n → R (.ok (.ret .none)) s') →
      codeAny (model prog w) A (.builtin "set.update.loop" ⟨[.ref S, .ref I], []⟩) R s := by
  have nw : S ∉ wr := fun h => hSf (W.sub _ h)
  have sub : ∀ b ∈ wr, b ∈ S :: wr := fun b hb => List.mem_cons_of_mem _ hb
  intro k
  induction k with
  | zero =>
    intro i s hk hi hst hS hR
    obtain rfl : i = n := by omega
    refine codeAny_builtin F.entry_set_update_loop ?_
    rw [Around.under_plainId F.plain_set_update_loop _]
    show wpAny _ A.in1 (pyNext (.ref I) >>= _) _ _ s
    refine wpAny_bind (W.done s _ _ hst fun s' hm => ?_)
    show wpAny _ A.in1 (ret Value.none) _ _ s'
    refine wpAny_pure (hR s' (hm.mono sub) ?_)
    obtain ⟨o, es, ep, t, ho, rest⟩ := hS
    exact ⟨o, es, ep, t, hm.heap S _ nw ho, rest⟩
  | succ k ih =>
    intro i s hk hi hst hS hR
    have hlt : i < n := by omega
    refine codeAny_builtin F.entry_set_update_loop ?_
    rw [Around.under_plainId F.plain_set_update_loop _]
    show wpAny _ A.in1 (pyNext (.ref I) >>= _) _ _ s
    refine wpAny_bind (W.item i s _ _ hlt hst fun v s' hP hst' hm => ?_)
    obtain ⟨x, t, hx, rfl⟩ := hval i v hP
    have hS' : s'.heap.SetOf (mixKind prog w) S (hasK (ks.take i)) i := by
      obtain ⟨o, es, ep, tb, ho, rest⟩ := hS
      exact ⟨o, es, ep, tb, hm.heap S _ nw ho, rest⟩
    show wpAny _ A.in1 (holding [Value.str x t] (setAdd S (.str x t)) >>= _) _ _ s'
    refine wpAny_bind (wpAny_holding ?_)
    unfold setAdd
    refine wpAny_holding ?_
    refine wpAny_bind ((mixKind prog w).pyHash (k := Sum.inr x) (mixKind_str prog w x t) ?_)
    have hnot : hasK (ks.take i) (Sum.inr x) = false := by
      show (ks.take i).contains x = false
      rw [Bool.eq_false_iff]
      intro hm'
      obtain ⟨j, hj⟩ := List.mem_iff_getElem?.mp (List.contains_iff_mem.mp hm')
      have hji : j < i := by
        have := (List.getElem?_eq_some_iff.mp hj).1
        rw [List.length_take] at this
        omega
      rw [List.getElem?_take_of_lt hji] at hj
      have := nd_ix nd hj hx
      omega
    refine wpAny_setAddHashed_of (knd := mixKind prog w) (s := { s' with toks := s'.toks + 1 }) (mixKind_str prog w x t) rfl hS' (by omega) fun h' hsb hS2 => ?_
    have hSi : h'.SetOf (mixKind prog w) S (hasK (ks.take (i + 1))) (i + 1) := by
      refine set_fun hS2 (fun y => ?_) (by rw [hnot]; rfl)
      rw [List.take_add_one, hx]
      cases y with
      | inl i => simp [hasK]
      | inr z =>
        show ((ks.take i).contains z || decide ((Sum.inr z : Key) = Sum.inr x)) = (ks.take i ++ [x]).contains z
        rw [key_rr]
        by_cases e : z = x
        · subst e; simp
        · simp [e]
    refine wpAny_pure ⟨plainId_quiet F.plain_set_update_loop _, ih (i + 1) _ (by omega) hlt (W.frame _ s' _ _ hst' (Nat.le_succ _) fun b hb o e => ?_) hSi fun s'' hm'' hS'' => ?_⟩
    · rw [hsb.2 b (fun h : b = S => hSf (by rw [← h]; exact hb))]; exact e
    · refine hR s'' (Moved.trans W.gtrans ((hm.mono sub).then_heap (Nat.le_succ _) fun b o hb e => ?_) hm'') hS''
      rw [hsb.2 b (fun h : b = S => hb (by rw [h]; exact List.mem_cons_self))]; exact e
end
section
variable {prog : Program} {w : World} {A : Around} {E : Value → Shared → Prop} {s : Shared}
/-- the texts of a list -/
def StrsAre (vs : List Value) (xs : List Str) : Prop := ∀ (i : Nat) (v : Value), vs[i]? = some v → ∃ x t, xs[i]? = some x ∧ v = Value.str x t
theorem call_set_strs {l : Addr} {items : Array Value} {xs : List Str} {Q : Value → Shared → Prop}
    (hh : A.handled = none) (hl : s.heap.IsList l items) (hi : StrsAre items.toList xs) (hlen : xs.length = items.size) (nd : xs.Nodup) (hb : items.size + 1 < scanBound)
    (h : ∀ (h' : Heap) (tk : Nat), h'.SetOf (mixKind prog w) s.heap.objs.size (hasK (xs.take items.size)) items.size → (∀ b o, b < s.heap.objs.size → s.heap.get? b = some o → h'.get? b = some o) → Q (.ref s.heap.objs.size) { s with heap := h', toks := tk }) :
    wpAny (model prog w) A (call (.type "set") [.ref l]) Q E s := by
  obtain ⟨c, tl, hmro⟩ := F.called_set.mro
  have hmade := F.called_set.made
  have hsub := F.called_set.sub
  refine wpAny_call (codeAny_of_tree ?_)
  show wpAny _ _ (callAny (.type "set") _) _ _ _
  refine wpAny_pure ⟨Code.quiet_builtin _ (by decide +kernel), codeAny_builtin F.entry_type_call ?_⟩
  rw [Around.under_plain (weight_type_call_type "set" [.ref l] []) rfl]
  have h1 := F.called_set.notType
  have h2 := F.called_set.canCreate
  have hct := F.typeCall_set_1 (.ref l)
  repeat (any_goals (first | assumption | wp_step))
  refine codeAny_mono (code_set_new_1 (.ref l) (E := E) (Q₁ := fun obj s₁ => ∃ led : Bool, obj = .ref s.heap.objs.size ∧ s₁ = { s with heap := s.heap.push { cls := .type "set", dict := none, data := .set #[] 0 (.fresh 0 0 led) } }) fun led => ⟨led, rfl, rfl⟩) fun r s₁ hr => ?_
  cases r with
  | error e => exact hr
  | ok fl =>
    cases fl with
    | ret obj =>
      obtain ⟨led, rfl, rfl⟩ := hr
      have hS : (s.heap.push { cls := .type "set", dict := none, data := .set #[] 0 (.fresh 0 0 led) }).get? s.heap.objs.size = some { cls := .type "set", dict := none, data := .set #[] 0 (.fresh 0 0 led) } := Heap.get?_push_size _ rfl
      have hT : Shared.TypeIs { s with heap := s.heap.push { cls := .type "set", dict := none, data := .set #[] 0 (.fresh 0 0 led) } } (.ref s.heap.objs.size) "set" := ⟨_, hS, rfl⟩
      have hli := F.called_set.init.lookup
      have hbi := F.called_set.init.bind (.ref s.heap.objs.size)
      repeat (any_goals (first | assumption | wp_step))
      refine codeAny_mono (codeAny_call_builtin (R := wants (fun r s₂ => r = .none ∧ ∃ h' tk, s₂ = { s with heap := h', toks := tk } ∧ h'.SetOf (mixKind prog w) s.heap.objs.size (hasK (xs.take items.size)) items.size ∧
          (∀ b o, b < s.heap.objs.size → s.heap.get? b = some o → h'.get? b = some o)) E) F.called_set.init.plain F.entry_set_init (check_set_init_1 hT ?_)) fun r₂ s₂ hr₂ => ?_
      · obtain ⟨ol, hol, hcl, nl, hdl⟩ := hl
        obtain ⟨ocls, odict, odata, oslots⟩ := ol
        simp only at hcl hdl
        subst hcl; subst hdl
        have hol' : (s.heap.push { cls := .type "set", dict := none, data := .set #[] 0 (.fresh 0 0 led) }).get? l = some { cls := .type "list", dict := odict, data := .seq items nl, slots := oslots } := Heap.get?_push_of_some _ hol
        have hsls := F.sub_list_set
        have hslf := F.sub_list_frozenset
        have hne : (Value.type "list" == Value.type "dict") = false := by decide
        have hl1 : (s.heap.push { cls := .type "set", dict := none, data := .set #[] 0 (.fresh 0 0 led) }).IsList l items := ⟨_, hol', rfl, nl, rfl⟩
        unfold Builtin.«set.__init__» noKeywords Builtin.Frozenset.updateFrom
        generalize hPI : pyIter = PI
        wp_walk
        subst hPI
        refine wpAny_pyIter_list hl1 ?_
        refine wpAny_bind (wpAny_runValue ?_)
        have hlS : l < s.heap.objs.size := Heap.lt_size hol
        have hh3 : A.in1.in1.in1.handled = none := by simp [hh]
        have hneI : l ≠ (s.heap.push { cls := .type "set", dict := none, data := .set #[] 0 (.fresh 0 0 led) }).objs.size := by
          rw [Heap.size_push]; exact Nat.ne_of_lt (Nat.lt_succ_of_lt hlS)
        have hSf : s.heap.objs.size ∉ [(s.heap.push { cls := .type "set", dict := none, data := .set #[] 0 (.fresh 0 0 led) }).objs.size, l] := by
          rw [Heap.size_push]; simp only [List.mem_cons, List.mem_singleton, List.not_mem_nil, or_false, not_or]
          exact ⟨Nat.ne_of_lt (Nat.lt_succ_self _), Nat.ne_of_gt hlS⟩
        have hval : ∀ (i : Nat) (v : Value), items[i]? = some v → ∃ x t, xs[i]? = some x ∧ v = .str x t := fun i v hv => hi i v (by rw [Array.getElem?_toList]; exact hv)
        refine set_loop ((Walks.list hh3 _ l hneI items).toS) s.heap.objs.size hSf xs hlen nd hval hb (items.size - 0) 0 _ (by omega) (Nat.zero_le _)
          ⟨⟨_, Heap.get?_push_size _ rfl, rfl, rfl⟩, (hl1.push _)⟩ ?hS0 ?hR
        case hS0 =>
          have hget := Heap.get?_push_of_some (h := s.heap.push { cls := .type "set", dict := none, data := .set #[] 0 (.fresh 0 0 led) }) { cls := .type "list_iterator", data := .fields #[.ref l, .int 0 0] } hS
          letI : BEq Key := instBEqOfDecidableEq
          exact set_fun (S := fun _ => false) ((PyProof.Rows.setObjOf_fresh (knd := mixKind prog w) led).setOf hget (by unfold scanBound; omega)) (fun y => by cases y <;> simp [hasK]) rfl
        case hR =>
          intro s' hm hS'
          obtain ⟨h', g', d', tk', os'⟩ := s'
          have eg : g' = s.gens := hm.gens
          have ed : d' = s.drawn := hm.drawn
          have eo : os' = s.os := hm.os
          subst eg; subst ed; subst eo
          show wpAny _ _ _ _ _ _
          refine wpAny_pure ?_
          show wpAny _ _ (ret Value.none) _ _ _
          refine wpAny_pure ⟨rfl, h', tk', rfl, hS', fun b o hb e => ?_⟩
          have hb1 : b ≠ s.heap.objs.size := Nat.ne_of_lt hb
          have hb2 : b ≠ (s.heap.push { cls := .type "set", dict := none, data := .set #[] 0 (.fresh 0 0 led) }).objs.size := by
            rw [Heap.size_push]; exact Nat.ne_of_lt (Nat.lt_succ_of_lt hb)
          exact hm.heap b o (by simp only [List.mem_cons, List.mem_singleton, List.not_mem_nil, or_false, not_or]; exact ⟨hb1, hb2⟩) (Heap.get?_push_of_some _ (Heap.get?_push_of_some _ e))
      · cases r₂ with
        | error e => exact hr₂
        | ok fl₂ =>
          cases fl₂ with
          | ret r =>
            obtain ⟨rfl, h', tk, rfl, hS', hk'⟩ := hr₂
            repeat (any_goals (first | assumption | wp_step))
            exact h _ _ hS' hk'
          | _ => exact hr₂.elim
    | _ => exact hr.elim
end
/-- a set with so many members -/
def SetN (a : Addr) (n : Nat) : HO := .ext fun h => ∃ o es ep t, h.get? a = some o ∧ o.ExactSet ∧ o.data = .set es ep t ∧ t.fits es.size = true ∧ es.size = n
theorem strs_are : ∀ {xs : List Str} {us : List Value}, Vals (xs.map V.str) us → StrsAre us xs
  | [], _, .nil => fun i v h => by simp at h
  | x :: xs, _, .cons r t => fun i v h => by
    cases i with
    | zero =>
      obtain ⟨t, rfl⟩ := r
      cases h
      exact ⟨x, t, rfl, rfl⟩
    | succ i =>
      obtain ⟨y, t', h1, h2⟩ := strs_are t i v (by simpa using h)
      exact ⟨y, t', by simpa using h1, h2⟩
section
variable {X : Cx}
def rSetS (K : PySem.W.Frag) : List V → Hp → VK → Prop := fun vs H Q => ∃ (a : Addr) (xs : List Str), vs = [.ref a] ∧ SqL K H a (xs.map V.str) ∧ xs.Nodup ∧ xs.length ≤ 100 ∧ ∀ p, H p = none → Q (.ref p) (upd H p (SetN p xs.length))
theorem call_setS (hc : X.calm = true) : CallR X (.type "set") (rSetS X.K) := by
  intro pins s σ H vs us Q I r h
  obtain ⟨a, xs, rfl, ha, nd, hz, q⟩ := h
  cases r with
  | cons r1 r2 =>
    cases r2
    cases r1
    obtain ⟨its, rv, hl, _⟩ := I.list ha
    have hlen : its.toArray.size = xs.length := by rw [List.size_toArray, ← rv.length, List.length_map]
    refine call_set_strs (I.ok.hd hc) hl.isList (by simpa using strs_are rv) hlen.symm nd (by rw [hlen]; unfold scanBound; omega) fun h' tk hS k => ?_
    have hf := I.hok.fresh (Nat.le_refl s.heap.objs.size)
    refine ⟨.ref s.heap.objs.size, _, I.laid (t' := tk) (o := SetN s.heap.objs.size xs.length) (fun b o z => k b o (Heap.lt_size z) z) (Nat.le_refl _) ?_, rfl, q _ hf⟩
    obtain ⟨o, es, ep, t, ho, hex, hd, _, _, _, hf', hn⟩ := hS
    refine ⟨⟨o, es, ep, t, ho, hex, hd, hf', by rw [hn, hlen]⟩, ⟨o, ho⟩, fun h1 h2 ⟨o1, es1, ep1, t1, g1, z⟩ kk => ⟨o1, es1, ep1, t1, kk _ g1, z⟩⟩
theorem call_lenS : CallR X (.builtin "len") (fun vs H Q => ∃ a n, vs = [.ref a] ∧ H a = some (SetN a n) ∧ n ≤ 100 ∧ Q (.int n) H) := by
  intro pins s σ H vs us Q I r h
  obtain ⟨a, n, rfl, ha, hz, q⟩ := h
  cases r with
  | cons r1 r2 =>
    cases r2
    cases r1
    obtain ⟨o, es, ep, t, g, hex, hd, hf, hn⟩ := (show ObjOk X.prog X.w H s.heap a (SetN a n) from I.hok a _ ha).1
    refine call_len_set g hex hd hf (by omega) ?_
    rw [hn]
    exact ⟨.int n, H, I.tok _, ⟨_, rfl⟩, q⟩
end
end L2



set_option Elab.async false
set_option linter.all false
set_option maxRecDepth 100000
set_option maxHeartbeats 400000
namespace LN
open PySem L2
/-! rows of arities -/
def rem : Nat → List Nat → Option (List Nat)
  | 0, l => some l
  | _ + 1, [] => none
  | k + 1, a :: l => rem (k + a) l
theorem rem_zero (l : List Nat) : rem 0 l = some l := by cases l <;> rfl
theorem rem_nil (k : Nat) : rem (k + 1) [] = none := rfl
theorem rem_cons (k a : Nat) (l : List Nat) : rem (k + 1) (a :: l) = rem (k + a) l := rfl
theorem rem_add : ∀ (l : List Nat) (m k : Nat), rem (m + k) l = (rem m l).bind (rem k)
  | l, 0, k => by rw [rem_zero, Nat.zero_add]; rfl
  | [], m + 1, k => by rw [show m + 1 + k = (m + k) + 1 by omega, rem_nil, rem_nil]; rfl
  | a :: l, m + 1, k => by
    rw [show m + 1 + k = (m + k) + 1 by omega, rem_cons, rem_cons, show m + k + a = (m + a) + k by omega]
    exact rem_add l (m + a) k
theorem rem_drop : ∀ (l : List Nat) (k : Nat) (r : List Nat), rem k l = some r → ∃ n, n ≤ l.length ∧ r = l.drop n ∧ k ≤ n
  | l, 0, r, h => by rw [rem_zero] at h; cases h; exact ⟨0, Nat.zero_le _, rfl, Nat.le_refl _⟩
  | [], k + 1, r, h => by rw [rem_nil] at h; cases h
  | a :: l, k + 1, r, h => by
    rw [rem_cons] at h
    obtain ⟨n, h1, h2, h3⟩ := rem_drop l (k + a) r h
    exact ⟨n + 1, by simp; omega, by simpa using h2, by omega⟩
theorem drop_inj {l : List Nat} {a b : Nat} (ha : a ≤ l.length) (hb : b ≤ l.length) (h : l.drop a = l.drop b) : a = b := by
  have := congrArg List.length h
  rw [List.length_drop, List.length_drop] at this
  omega
/-- the inner row that begins at i ends ahead of e -/
structure EndAt (l : List Nat) (i e : Nat) : Prop where
  lt : i < e
  le : e ≤ l.length
  rem : rem 1 (l.drop i) = some (l.drop e)
theorem EndAt.inj {l : List Nat} {i e e' : Nat} (h : EndAt l i e) (h' : EndAt l i e') : e = e' := by
  have := h.rem.symm.trans h'.rem
  exact drop_inj h.le h'.le (Option.some.inj this)
theorem drop_at {l : List Nat} {i : Nat} (h : i < l.length) : l.drop i = l[i] :: l.drop (i + 1) := List.drop_eq_getElem_cons h
/-- whole rows: behind each place some wanted ones are left -/
theorem want {l : List Nat} (h : rem 1 l = some []) : ∀ i, i ≤ l.length → ∃ w, rem w (l.drop i) = some []
  | 0, _ => ⟨1, h⟩
  | i + 1, hi => by
    obtain ⟨w, hw⟩ := want h i (by omega)
    rw [drop_at (by omega)] at hw
    cases w with
    | zero => rw [rem_zero] at hw; cases hw
    | succ w => rw [rem_cons] at hw; exact ⟨_, hw⟩
theorem end_ex {l : List Nat} (h : rem 1 l = some []) {i : Nat} (hi : i < l.length) : ∃ e, EndAt l i e := by
  obtain ⟨w, hw⟩ := want h i (by omega)
  cases w with
  | zero =>
    rw [rem_zero, drop_at hi] at hw
    cases hw
  | succ w =>
    rw [show w + 1 = 1 + w by omega, rem_add] at hw
    cases e : rem 1 (l.drop i) with
    | none => rw [e] at hw; cases hw
    | some r =>
      obtain ⟨n, h1, h2, h3⟩ := rem_drop _ _ _ e
      rw [List.drop_drop] at h2
      rw [List.length_drop] at h1
      exact ⟨i + n, by omega, by omega, by rw [e, h2]⟩
theorem rem_pos {k : Nat} {l r : List Nat} (hk : 0 < k) (h : rem k l = some r) : ∃ a t, l = a :: t := by
  cases l with
  | nil =>
    cases k with
    | zero => omega
    | succ k => rw [rem_nil] at h; cases h
  | cons a t => exact ⟨a, t, rfl⟩
/-- signs -/
abbrev KS := List (Str × Nat)
def arN (ks : KS) (n : Nat) : Nat := (ks.getD n (default, 0)).2
def SmN (c : Nat) : Prop := 97 ≤ c ∧ c ≤ 122
def NmOk (x : Str) : Prop := 1 ≤ x.length ∧ x.length ≤ 6 ∧ ∀ c ∈ x.cps.toList, SmN c
structure KOk (ks : KS) : Prop where
  le8 : ks.length ≤ 8
  nm : ∀ k ∈ ks, NmOk k.1
  ar : ∀ k ∈ ks, k.2 ≤ 3
  nd : (ks.map (·.1)).Nodup
  z : ∃ k ∈ ks, k.2 = 0
theorem KOk.pos {ks : KS} (h : KOk ks) : 1 ≤ ks.length := by
  obtain ⟨k, hk, _⟩ := h.z
  exact List.length_pos_of_mem hk
abbrev nV (n : Nat) : V := .int (n : Int)
def PairAt (H : Hp) (p : Addr) (k : Str × Nat) : Prop := H p = some (.tup [.str k.1, nV k.2])
def KAt (H : Hp) (a : Addr) (ks : KS) : Prop := ∃ ps : List Addr, H a = some (.tup (ps.map V.ref)) ∧ Paired (PairAt H) ps ks
def TAt (H : Hp) (t : Addr) (ns : List Nat) : Prop := H t = some (.tup (ns.map nV))
abbrev arL (ks : KS) (ns : List Nat) : List Nat := ns.map (arN ks)
structure TOk (ks : KS) (ns : List Nat) : Prop where
  le : ns.length ≤ 30
  lt : ∀ n ∈ ns, n < ks.length
  rem : rem 1 (arL ks ns) = some []
theorem TOk.pos {ks : KS} {ns : List Nat} (h : TOk ks ns) : 1 ≤ ns.length := by
  have := h.rem
  cases ns with
  | nil => cases this
  | cons _ _ => simp
/-- all tracked things but the one at p are as they were -/
def Sam (p : Addr) (H H' : Hp) : Prop := ∀ b o, H b = some o → b ≠ p → H' b = some o
theorem Sam.refl {p : Addr} {H : Hp} : Sam p H H := fun _ _ h _ => h
theorem Sam.trans {p : Addr} {H H1 H2 : Hp} (a : Sam p H H1) (b : Sam p H1 H2) : Sam p H H2 := fun c o h n => b c o (a c o h n) n
theorem Sam.of {p : Addr} {H H' : Hp} (S : Same H H') : Sam p H H' := fun b o h _ => S b o h
theorem Sam.upd {p : Addr} {H : Hp} {o : HO} : Sam p H (upd H p o) := fun b o h n => by rw [upd_ne n]; exact h
theorem paired_mono {α β : Type} {R R' : α → β → Prop} : ∀ {xs : List α} {ys : List β}, Paired R xs ys → (∀ x y, R x y → R' x y) → Paired R' xs ys
  | _, _, .nil, _ => .nil
  | _, _, .cons r t, h => .cons (h _ _ r) (paired_mono t h)
theorem KAt.same {H H' : Hp} {a : Addr} {ks : KS} (S : Same H H') (h : KAt H a ks) : KAt H' a ks := by
  obtain ⟨ps, h1, h2⟩ := h
  exact ⟨ps, S _ _ h1, paired_mono h2 fun p k h => S _ _ h⟩
theorem TAt.same {H H' : Hp} {a : Addr} {ns : List Nat} (S : Same H H') (h : TAt H a ns) : TAt H' a ns := S _ _ h
theorem ne_lst {H : Hp} {p a : Addr} {xs ys : List V} (hp : H p = some (.lst xs)) (ha : H a = some (.tup ys)) : a ≠ p := ne_of ha hp (by intro z; cases z)
theorem KAt.sam {H H' : Hp} {a p : Addr} {ks : KS} {xs : List V} (hp : H p = some (.lst xs)) (S : Sam p H H') (h : KAt H a ks) : KAt H' a ks := by
  obtain ⟨ps, h1, h2⟩ := h
  exact ⟨ps, S _ _ h1 (ne_lst hp h1), paired_mono h2 fun q k h => S _ _ h (ne_lst hp h)⟩
theorem TAt.sam {H H' : Hp} {a p : Addr} {ns : List Nat} {xs : List V} (hp : H p = some (.lst xs)) (S : Sam p H H') (h : TAt H a ns) : TAt H' a ns := S _ _ h (ne_lst hp h)
theorem paired_at {α β : Type} {R : α → β → Prop} : ∀ {xs : List α} {ys : List β} (i : Nat) {x : α}, Paired R xs ys → xs[i]? = some x → ∃ y, ys[i]? = some y ∧ R x y
  | _, _, _, _, .nil, e => by simp at e
  | _, _, 0, _, .cons r _, e => by simp at e; subst e; exact ⟨_, rfl, r⟩
  | _, _, i + 1, x, .cons _ t, e => by
    obtain ⟨y, h1, h2⟩ := paired_at i t (by simpa using e)
    exact ⟨y, by simpa using h1, h2⟩
theorem paired_at' {α β : Type} {R : α → β → Prop} : ∀ {xs : List α} {ys : List β} (i : Nat) {y : β}, Paired R xs ys → ys[i]? = some y → ∃ x, xs[i]? = some x ∧ R x y
  | _, _, _, _, .nil, e => by simp at e
  | _, _, 0, _, .cons r _, e => by simp at e; subst e; exact ⟨_, rfl, r⟩
  | _, _, i + 1, x, .cons _ t, e => by
    obtain ⟨y, h1, h2⟩ := paired_at' i t (by simpa using e)
    exact ⟨y, by simpa using h1, h2⟩
/-- the pair of the n-th sign -/
theorem KAt.at {H : Hp} {a : Addr} {ks : KS} {n : Nat} (h : KAt H a ks) (hn : n < ks.length) : ∃ (ps : List Addr) (q : Addr) (x : Str), H a = some (.tup (ps.map V.ref)) ∧ ps.length = ks.length ∧ atI (ps.map V.ref) (n : Int) = some (.ref q) ∧ H q = some (.tup [.str x, nV (arN ks n)]) ∧ ks[n]? = some (x, arN ks n) := by
  obtain ⟨ps, h1, h2⟩ := h
  have e : ks[n]? = some ks[n] := List.getElem?_eq_getElem hn
  obtain ⟨q, hq, hp⟩ := paired_at' n h2 e
  have ea : arN ks n = ks[n].2 := by unfold arN; rw [List.getD_eq_getElem?_getD, e]; rfl
  refine ⟨ps, q, ks[n].1, h1, Paired.length h2, atI_nat (by rw [List.getElem?_map, hq]; rfl), ?_, ?_⟩
  · rw [ea]; exact hp
  · rw [ea]; exact e
theorem arN_le {ks : KS} (h : KOk ks) (n : Nat) : arN ks n ≤ 3 := by
  unfold arN
  rw [List.getD_eq_getElem?_getD]
  cases e : ks[n]? with
  | none => exact Nat.zero_le _
  | some k => exact h.ar k (List.mem_of_getElem? e)
theorem TAt.at {H : Hp} {t : Addr} {ns : List Nat} {i : Nat} (h : i < ns.length) : atI (ns.map nV) (i : Int) = some (nV ns[i]) := atI_nat (by rw [List.getElem?_map, List.getElem?_eq_getElem h]; rfl)
theorem arL_at {ks : KS} {ns : List Nat} {i : Nat} (h : i < ns.length) : (arL ks ns).drop i = arN ks ns[i] :: (arL ks ns).drop (i + 1) := by
  rw [drop_at (by simpa using h)]
  simp
end LN


set_option Elab.async false
set_option linter.all false
set_option maxRecDepth 100000
set_option maxHeartbeats 1600000
namespace L2
open PySem PySem.Spec PyProof.Rows
section
variable {X : Cx}
/-- written texts -/
inductive StrEs : List Expr → List Str → Prop where
  | nil : StrEs [] []
  | cons {x : Str} {j : Nat} {pos : Pos} {es : List Expr} {xs : List Str} : StrEs es xs → StrEs (.Constant (.str x) j pos :: es) (x :: xs)
theorem pa_strs {es : List Expr} {xs : List Str} (h : StrEs es xs) : PA X es (fun _ H Q => Q (xs.map V.str) H) := by
  induction h with
  | nil => exact pa_nil
  | cons _ ih => exact pa_cons pe_str ih rfl
def strsOf : List Expr → Option (List Str)
  | [] => some []
  | .Constant (.str x) _ _ :: r => (strsOf r).map (x :: ·)
  | _ => none
theorem strs_of : ∀ {es : List Expr} {xs : List Str}, strsOf es = some xs → StrEs es xs
  | [], xs, h => by cases h; exact .nil
  | e :: r, xs, h => by
    unfold strsOf at h
    split at h
    · rename_i e1; cases e1
    · rename_i x j pos r' e1
      cases e1
      obtain ⟨ys, h1, rfl⟩ := Option.map_eq_some_iff.mp h
      exact .cons (strs_of h1)
    · cases h
theorem pe_isiC {e : Expr} {te : TE} {x : Str} {p p2 pos : Pos} {D : Addr} (he : PE X e te) (hg : Gl X "isinstance") (hi : X.mg "isinstance" = none) (hgx : Gl X x) (hm : X.mg x = some (.ref D)) (hst : starEach [e, .Name x p2] X.env = (false, eval e X.env) :: starEach [.Name x p2] X.env := by rfl) (hdb : (x == ("__debug__" : Str)) = false := by decide) :
    PE X (.Call (.Name "isinstance" p) [e, .Name x p2] [] pos) (tCB (rIsr X.K) (tCons te (tCons (tC (.ref D)) tNil))) :=
  pe_callB call_isr hg hi (by decide +kernel) (pa_cons he (pa_cons (pe_glob (v := .ref D) hgx hm rfl hdb) pa_nil) hst) (by decide) (by decide) hst rfl
theorem pe_isiT {e : Expr} {te : TE} {x : Str} {p p2 pos : Pos} {n : String} (he : PE X e te) (hg : Gl X "isinstance") (hi : X.mg "isinstance" = none) (hgx : Gl X x) (hm : X.mg x = none) (hb : bootBuiltins x = some (.type n)) (hst : starEach [e, .Name x p2] X.env = (false, eval e X.env) :: starEach [.Name x p2] X.env := by rfl) (hn : x ≠ "__name__" := by decide) (hdb : (x == ("__debug__" : Str)) = false := by decide) :
    PE X (.Call (.Name "isinstance" p) [e, .Name x p2] [] pos) (tCB (rIsr X.K) (tCons te (tCons (tC (.ty n)) tNil))) :=
  pe_callB call_isr hg hi (by decide +kernel) (pa_cons he (pa_cons (pe_bltn (v := .ty n) hgx hm hb rfl hn hdb) pa_nil) hst) (by decide) (by decide) hst rfl
end
end L2
namespace L2
open PySem PySem.Spec PyProof.Rows
section
variable {X : Cx}
def CDivL (i j : Int) : Prop := 0 < j ∧ j.natAbs.log2 < 100
theorem op_fdivL : OpR X (binaryOp .FloorDiv) (rI CDivL fun i j => .int (i / j)) := opI fun i j _ _ _ _ _ hc q => by
  have h1 : (0 : Int) < j := hc.1
  exact floordiv_int (by omega) (by rw [Int.fdiv_eq_ediv_of_nonneg i (by omega)]; exact q) (.inl (PyProof.noPylong_of_log2 (Nat.lt_trans hc.2 (by decide +kernel))))
end
end L2
namespace L2
open PySem PySem.Spec PyProof.Rows
theorem lc_str {x : Str} {g : TG} {tt : TT} {te : TE} {vs : List Nat} {σ : St} {H1 : Hp} {D : Addr} {Qd : Hp → Prop} (Pv : Nat → Hp → Prop) (h0 : Pv 0 (upd H1 D (.lst [])))
    (hs : ∀ i c H, x.cps[i]? = some c → Pv i H → g (.str ⟨#[c]⟩) (wipe σ vs) H fun σ2 H2 => wipe σ2 vs = wipe σ vs ∧ tt σ2 H2 fun b H3 =>
      if b = true then te σ2 H3 fun y H4 => ∃ acc, H4 D = some (.lst acc) ∧ acc.length < sizeLine ∧ Pv (i + 1) (upd H4 D (.lst (acc ++ [y]))) else Pv (i + 1) H3) (hd : ∀ H, Pv x.cps.size H → Qd H) :
    ∃ W : Nat → Nat → Hp → Prop, (∃ m, W 0 m (upd H1 D (.lst []))) ∧ ∀ i m H, W i m H →
      ((Its x).stop i H ∧ Qd H) ∨ ((Its x).go i H ∧ ∃ Nx : Hp → Prop, (∀ H', Nx H' → ∃ m', m' < m ∧ W (i + 1) m' H') ∧ ∀ v H', (Its x).yld i H v H' → g v (wipe σ vs) H' fun σ2 H2 => wipe σ2 vs = wipe σ vs ∧ tt σ2 H2 fun b H3 =>
        if b = true then te σ2 H3 fun y H4 => ∃ acc, H4 D = some (.lst acc) ∧ acc.length < sizeLine ∧ Nx (upd H4 D (.lst (acc ++ [y]))) else Nx H3) := by
  refine ⟨fun i m H => m = x.cps.size - i ∧ i ≤ x.cps.size ∧ Pv i H, ⟨x.cps.size, by simp, Nat.zero_le _, h0⟩, ?_⟩
  rintro i m H ⟨rfl, hi, p⟩
  by_cases hlt : i < x.cps.size
  · refine .inr ⟨hlt, Pv (i + 1), fun H' p' => ⟨x.cps.size - (i + 1), by omega, rfl, hlt, p'⟩, fun v H' y => ?_⟩
    obtain ⟨e, c, hc, y⟩ := y
    subst e y
    exact hs i c _ hc p
  · have e : i = x.cps.size := by omega
    subst e
    exact .inl ⟨Nat.le_refl _, hd H p⟩
end L2
namespace L2
open PySem PySem.Spec PyProof.Rows
theorem Same.seqT {K : PySem.W.Frag} {H H' : Hp} {a : Addr} {xs : List V} (e : Same H H') (h : SqT K H a xs) : SqT K H' a xs := by
  rcases h with (h | ⟨o, h⟩) | h
  · exact .inl (.inl (e _ _ h))
  · exact .inl (.inr ⟨o, e _ _ h⟩)
  · exact .inr h
theorem Same.over {H H' : Hp} {D : Addr} {o : HO} (S : Same H H') (h : H D = none) : Same H (upd H' D o) := fun b q z => by rw [upd_ne (ne_of_none z h)]; exact S b q z
theorem lc_valsT {K : PySem.W.Frag} {a : Addr} {xs ys : List V} {g : TG} {te : TE} {vs : List Nat} {σ : St} {H1 : Hp} {D : Addr} {Qd : Hp → Prop} (hD : H1 D = none) (hlen : xs.length ≤ 1000) (hy : ys.length = xs.length) (ha : SqT K H1 a xs)
    (step : ∀ (i : Nat) (x y : V) (H : Hp) (Q' : VK), xs[i]? = some x → ys[i]? = some y → Same H1 H → (∀ H', Same H H' → Q' y H') → g x (wipe σ vs) H fun σ2 H2 => wipe σ2 vs = wipe σ vs ∧ te σ2 H2 Q') (hd : ∀ H', Same H1 H' → H' D = some (.lst ys) → Qd H') :
    ∃ W : Nat → Nat → Hp → Prop, (∃ m, W 0 m (upd H1 D (.lst []))) ∧ ∀ i m H, W i m H →
      ((Itt K a).stop i H ∧ Qd H) ∨ ((Itt K a).go i H ∧ ∃ Nx : Hp → Prop, (∀ H', Nx H' → ∃ m', m' < m ∧ W (i + 1) m' H') ∧ ∀ x H', (Itt K a).yld i H x H' → g x (wipe σ vs) H' fun σ2 H2 => wipe σ2 vs = wipe σ vs ∧ tYes σ2 H2 fun b H3 =>
        if b = true then te σ2 H3 fun y H4 => ∃ acc, H4 D = some (.lst acc) ∧ acc.length < sizeLine ∧ Nx (upd H4 D (.lst (acc ++ [y]))) else Nx H3) := by
  refine lc_tup (xs := xs) (fun i H => Same H1 H ∧ H D = some (.lst (ys.take i))) ⟨(Same.refl _).over hD, by rw [upd_same]; rfl⟩ (fun i H _ h => h.1.seqT ha) ?_ ?_
  · rintro i x H hx ⟨S, hH⟩
    have hi := (List.getElem?_eq_some_iff.mp hx).1
    have hyi : ys[i]? = some (ys[i]'(by omega)) := List.getElem?_eq_getElem (by omega)
    refine step i x _ H _ hx hyi S fun H' S' => ?_
    refine ⟨_, S' _ _ hH, by rw [List.length_take]; exact small1000 (by omega), (S.trans S').over hD, ?_⟩
    rw [upd_same, List.take_add_one, hyi]
    rfl
  · rintro H ⟨S, hH⟩
    rw [← hy, List.take_length] at hH
    exact hd H S hH
theorem lc_valsL {K : PySem.W.Frag} {a : Addr} {xs ys : List V} {g : TG} {te : TE} {vs : List Nat} {σ : St} {H1 : Hp} {D : Addr} {Qd : Hp → Prop} (hD : H1 D = none) (hlen : xs.length ≤ 1000) (hy : ys.length = xs.length) (ha : SqL K H1 a xs)
    (step : ∀ (i : Nat) (x y : V) (H : Hp) (Q' : VK), xs[i]? = some x → ys[i]? = some y → Same H1 H → (∀ H', Same H H' → Q' y H') → g x (wipe σ vs) H fun σ2 H2 => wipe σ2 vs = wipe σ vs ∧ te σ2 H2 Q') (hd : ∀ H', Same H1 H' → H' D = some (.lst ys) → Qd H') :
    ∃ W : Nat → Nat → Hp → Prop, (∃ m, W 0 m (upd H1 D (.lst []))) ∧ ∀ i m H, W i m H →
      ((Itl K a).stop i H ∧ Qd H) ∨ ((Itl K a).go i H ∧ ∃ Nx : Hp → Prop, (∀ H', Nx H' → ∃ m', m' < m ∧ W (i + 1) m' H') ∧ ∀ x H', (Itl K a).yld i H x H' → g x (wipe σ vs) H' fun σ2 H2 => wipe σ2 vs = wipe σ vs ∧ tYes σ2 H2 fun b H3 =>
        if b = true then te σ2 H3 fun y H4 => ∃ acc, H4 D = some (.lst acc) ∧ acc.length < sizeLine ∧ Nx (upd H4 D (.lst (acc ++ [y]))) else Nx H3) := by
  refine lc_list (xs := xs) (fun i H => Same H1 H ∧ H D = some (.lst (ys.take i))) ⟨(Same.refl _).over hD, by rw [upd_same]; rfl⟩ (fun i H _ h => h.1.seq ha) ?_ ?_
  · rintro i x H hx ⟨S, hH⟩
    have hi := (List.getElem?_eq_some_iff.mp hx).1
    have hyi : ys[i]? = some (ys[i]'(by omega)) := List.getElem?_eq_getElem (by omega)
    refine step i x _ H _ hx hyi S fun H' S' => ?_
    refine ⟨_, S' _ _ hH, by rw [List.length_take]; exact small1000 (by omega), (S.trans S').over hD, ?_⟩
    rw [upd_same, List.take_add_one, hyi]
    rfl
  · rintro H ⟨S, hH⟩
    rw [← hy, List.take_length] at hH
    exact hd H S hH
end L2
namespace L2
open PySem PySem.Spec PyProof.Rows
section
variable {X : Cx} {CX : CXT} {k : Nat} {f C : Addr} {fd : FuncData} {ps ks : List Str} {sp : Sp} {E : XK} {x : Str} {p pos : Pos} {kws : List Keyword} {tk : TA} {g : List Value → List Value → List Value} {gV : List V → List V → List V}
end
end L2
namespace LN
open PySem L2
theorem sIx_nat {n d i : Nat} (h : i ≤ n) : HT.sIx n d (some (i : Int)) = i := by
  unfold HT.sIx
  dsimp only
  rw [if_neg (by omega)]
  have : ((i : Nat) : Int).toNat = i := by simp
  rw [this]
  exact Nat.min_eq_left h
theorem cut_mid {ns : List Nat} {i e : Nat} (h1 : i ≤ e) (h2 : e ≤ ns.length) : cutV (ns.map nV) (some (i : Int)) (some (e : Int)) = ((ns.drop i).take (e - i)).map nV := by
  unfold cutV
  rw [sIx_nat (by rw [List.length_map]; omega), sIx_nat (by rw [List.length_map]; omega), List.map_take, List.map_drop]
end LN
namespace LN
open PySem L2
def PotAt (H : Hp) (p : Addr) : Prop := ∃ n : Int, H p = some (.lst [.int n])
theorem Sam.over {p : Addr} {H H' : Hp} {D : Addr} {o : HO} (S : Sam p H H') (h : H D = none) : Sam p H (L2.upd H' D o) := fun b q z n => by rw [upd_ne (ne_of_none z h)]; exact S b q z n
theorem Sam.free {p : Addr} {H H' : Hp} (S : Sam p H H') {l : Addr} (n : l ≠ p) (h : H' l = none) : H l = none := by
  cases q : H l with
  | none => rfl
  | some o =>
    rw [S l o q n] at h
    cases h
theorem PotAt.over {H : Hp} {p D : Addr} {o : HO} (h : PotAt H p) (hD : H D = none) : PotAt (L2.upd H D o) p := by
  obtain ⟨n, h⟩ := h
  exact ⟨n, by rw [upd_ne (ne_of_none h hD)]; exact h⟩
theorem PotAt.upd {H : Hp} {p D : Addr} {o : HO} (h : PotAt H p) (hD : p ≠ D) : PotAt (L2.upd H D o) p := by
  obtain ⟨n, h⟩ := h
  exact ⟨n, by rw [upd_ne hD]; exact h⟩
theorem PotAt.same {H H' : Hp} {p : Addr} (S : Same H H') (h : PotAt H p) : PotAt H' p := by
  obtain ⟨n, h⟩ := h
  exact ⟨n, S _ _ h⟩
theorem mod_nat {n : Int} {m : Nat} (h : 0 < m) : ∃ j : Nat, j < m ∧ n % (m : Int) = (j : Int) := by
  have h1 := Int.emod_nonneg n (b := (m : Int)) (by omega)
  have h2 := Int.emod_lt_of_pos n (b := (m : Int)) (by omega)
  exact ⟨(n % (m : Int)).toNat, by omega, by omega⟩
theorem joinL_nil : ∀ ps : List (List Nat), TL.joinL [] ps = ps.flatten
  | [] => rfl
  | [p] => by show p = _; simp
  | p :: q :: r => by
    show p ++ ([] ++ TL.joinL [] (q :: r)) = _
    rw [joinL_nil (q :: r)]
    simp
abbrev sgn (c : Nat) : Str := ⟨#[c]⟩
theorem join_sgn (cs : List Nat) : (Txt.join "" (cs.map sgn)).cps.toList = cs := by
  have e := TL.tl_join "" (cs.map sgn)
  rw [TL.join_eq]
  refine e.trans ?_
  show TL.joinL [] _ = _
  rw [joinL_nil, List.map_map]
  induction cs with
  | nil => rfl
  | cons c cs ih => rw [List.map_cons, List.flatten_cons, ih (TL.tl_join "" (cs.map sgn))]; rfl
theorem nm_join {cs : List Nat} (h1 : 1 ≤ cs.length) (h6 : cs.length ≤ 6) (h : ∀ c ∈ cs, SmN c) : NmOk (Txt.join "" (cs.map sgn)) := by
  have e := join_sgn cs
  have el : (Txt.join "" (cs.map sgn)).length = cs.length := by
    show (Txt.join "" (cs.map sgn)).cps.size = _
    rw [← Array.length_toList, e]
  exact ⟨by omega, by omega, fun c hc => h c (by rw [e] at hc; exact hc)⟩
end LN
namespace LN
open PySem L2
/-- all tuples stay -/
def Tp (H H' : Hp) : Prop := ∀ b xs, H b = some (.tup xs) → H' b = some (.tup xs)
theorem Tp.refl {H : Hp} : Tp H H := fun _ _ h => h
theorem Tp.trans {H H1 H2 : Hp} (a : Tp H H1) (b : Tp H1 H2) : Tp H H2 := fun c o h => b c o (a c o h)
theorem Tp.of {H H' : Hp} (S : Same H H') : Tp H H' := fun b xs h => S _ _ h
theorem Tp.sam {p : Addr} {H H' : Hp} (hp : PotAt H p) (S : Sam p H H') : Tp H H' := fun b xs h => by
  obtain ⟨n, hp⟩ := hp
  exact S _ _ h (ne_lst hp h)
theorem Tp.lst {l : Addr} {H : Hp} {xs ys : List V} (h : H l = some (.lst xs)) : Tp H (upd H l (.lst ys)) := fun b zs hb => by rw [upd_ne (ne_lst h hb)]; exact hb
theorem Tp.pairs {H H' : Hp} (S : Tp H H') {ps : List Addr} {ks : KS} (h : Paired (PairAt H) ps ks) : Paired (PairAt H') ps ks := paired_mono h fun p k z => S _ _ z
theorem inV_str {x : Str} {xs : List Str} : inV (.str x) (xs.map V.str) = decide (x ∈ xs) := by
  induction xs with
  | nil => rfl
  | cons y ys ih =>
    show (eqV (.str y) (.str x) || inV (.str x) (ys.map V.str)) = _
    rw [ih]
    show ((y == x) || _) = _
    by_cases e : y = x
    · subst e
      simp
    · have e' : ¬ x = y := fun z => e z.symm
      simp [e, e']
theorem inV_nat {x : Nat} {xs : List Nat} : inV (nV x) (xs.map nV) = decide (x ∈ xs) := by
  induction xs with
  | nil => rfl
  | cons y ys ih =>
    show (eqV (nV y) (nV x) || inV (nV x) (ys.map nV)) = _
    rw [ih]
    show (((y : Int) == (x : Int)) || _) = _
    by_cases e : y = x
    · subst e
      simp
    · have e' : ¬ x = y := fun z => e z.symm
      have e2 : ((y : Int) == (x : Int)) = false := by
        rw [beq_eq_false_iff_ne]
        omega
      simp [e2, e']
theorem flat_strs (xs : List Str) : (xs.map V.str).all flatV = true := by
  rw [List.all_map, List.all_eq_true]
  intro y _
  rfl
theorem flat_nats (xs : List Nat) : (xs.map nV).all flatV = true := by
  rw [List.all_map, List.all_eq_true]
  intro y _
  rfl
theorem paired_snoc {α β : Type} {R : α → β → Prop} {x : α} {y : β} (r : R x y) : ∀ {xs : List α} {ys : List β}, Paired R xs ys → Paired R (xs ++ [x]) (ys ++ [y])
  | _, _, .nil => .cons r .nil
  | _, _, .cons q t => .cons q (paired_snoc r t)
theorem paired_set {α β : Type} {R : α → β → Prop} {x : α} {y : β} (r : R x y) : ∀ {xs : List α} {ys : List β} (i : Nat), Paired R xs ys → Paired R (xs.set i x) (ys.set i y)
  | _, _, _, .nil => .nil
  | _, _, 0, .cons _ t => .cons r t
  | _, _, i + 1, .cons q t => .cons q (paired_set r i t)
end LN
namespace LN
open PySem L2
def natD (ns : List Nat) : List PyData := ns.map fun n : Nat => .int (n : Int)
theorem dp_nats {K : PySem.W.Frag} {H : Hp} : ∀ ns : List Nat, DpAll K H (ns.map nV) (natD ns)
  | [] => .nil
  | n :: ns => .cons (.int n) (dp_nats ns)
theorem seq_new {K : PySem.W.Frag} {H H' : Hp} {a p : Addr} {o : HO} {xs : List V} (h : SqL K H a xs) (hp : H p = none) (S : Sam p (upd H p o) H') : SqL K H' a xs := by
  rcases h with (h | ⟨o', h⟩) | h
  · have n := ne_of_none h hp
    exact .inl (.inl (S _ _ (by rw [upd_ne n]; exact h) n))
  · have n := ne_of_none h hp
    exact .inl (.inr ⟨o', S _ _ (by rw [upd_ne n]; exact h) n⟩)
  · exact .inr h
end LN


set_option Elab.async false
set_option linter.all false
set_option maxRecDepth 100000
set_option maxHeartbeats 1000000
namespace L2
open PySem PySem.Spec PyProof.Rows
/-! ### things of any kind: None, truths, numbers, texts, lists (but the one at p), tuples, dicts of numbers -/
mutual
inductive Dq (H : Hp) (p : Addr) : V → PyData → Prop
  | non : Dq H p .non .none
  | bl (b : Bool) : Dq H p (.bl b) (.bool b)
  | int (i : Int) : Dq H p (.int i) (.int i)
  | str (x : Str) : Dq H p (.str x) (.str x)
  | lst {a : Addr} {xs : List V} {ds : List PyData} : H a = some (.lst xs) → a ≠ p → a ≠ sysModules → DqAll H p xs ds → Dq H p (.ref a) (.list ds)
  | tup {a : Addr} {xs : List V} {ds : List PyData} : H a = some (.tup xs) → DqAll H p xs ds → Dq H p (.ref a) (.tuple ds)
  | dct {a : Addr} {ijs : List (Int × Int)} : H a = some (.dK (ijs.map fun x => (Sum.inl x.1, V.int x.2))) → Dq H p (.ref a) (.dict (ijs.map fun x => (PyData.int x.1, PyData.int x.2)))
inductive DqAll (H : Hp) (p : Addr) : List V → List PyData → Prop
  | nil : DqAll H p [] []
  | cons {v : V} {vs : List V} {d : PyData} {ds : List PyData} : Dq H p v d → DqAll H p vs ds → DqAll H p (v :: vs) (d :: ds)
end
/-- the pot is a list, and all else stays -/
structure Still (p : Addr) (H H' : Hp) : Prop where
  pot : ∃ xs, H p = some (.lst xs)
  keep : ∀ b o, H b = some o → b ≠ p → H' b = some o
mutual
theorem Dq.still {H H' : Hp} {p : Addr} (S : Still p H H') : ∀ (d : PyData) (v : V), Dq H p v d → Dq H' p v d
  | .none, _, h => by cases h; exact .non
  | .bool b, _, h => by cases h; exact .bl b
  | .int i, _, h => by cases h; exact .int i
  | .str x, _, h => by cases h; exact .str x
  | .list ds, _, h => by
    cases h with
    | lst e n m ha => exact .lst (S.keep _ _ e n) n m (DqAll.still S ds _ ha)
  | .tuple ds, _, h => by
    cases h with
    | tup e ha =>
      obtain ⟨xs, hp⟩ := S.pot
      exact .tup (S.keep _ _ e (ne_of e hp (by intro z; cases z))) (DqAll.still S ds _ ha)
  | .dict kvs, _, h => by
    cases h with
    | dct e =>
      obtain ⟨xs, hp⟩ := S.pot
      exact .dct (S.keep _ _ e (ne_of e hp (by intro z; cases z)))
theorem DqAll.still {H H' : Hp} {p : Addr} (S : Still p H H') : ∀ (ds : List PyData) (vs : List V), DqAll H p vs ds → DqAll H' p vs ds
  | [], _, h => by cases h; exact .nil
  | d :: ds, _, h => by
    cases h with
    | cons h1 h2 => exact .cons (Dq.still S d _ h1) (DqAll.still S ds _ h2)
end
theorem DqAll.length {H : Hp} {p : Addr} : ∀ {vs : List V} {ds : List PyData}, DqAll H p vs ds → vs.length = ds.length
  | _, _, .nil => rfl
  | _, _, .cons _ t => by rw [List.length_cons, List.length_cons, t.length]
theorem DqAll.append {H : Hp} {p : Addr} : ∀ {vs ws : List V} {ds es : List PyData}, DqAll H p vs ds → DqAll H p ws es → DqAll H p (vs ++ ws) (ds ++ es)
  | _, _, _, _, .nil, h => h
  | _, _, _, _, .cons r t, h => .cons r (t.append h)
theorem DqAll.take {H : Hp} {p : Addr} : ∀ {vs : List V} {ds : List PyData} (n : Nat), DqAll H p vs ds → DqAll H p (vs.take n) (ds.take n)
  | _, _, 0, _ => .nil
  | _, _, _ + 1, .nil => .nil
  | _, _, n + 1, .cons r t => .cons r (t.take n)
theorem DqAll.drop {H : Hp} {p : Addr} : ∀ {vs : List V} {ds : List PyData} (n : Nat), DqAll H p vs ds → DqAll H p (vs.drop n) (ds.drop n)
  | _, _, 0, h => h
  | _, _, _ + 1, .nil => .nil
  | _, _, n + 1, .cons _ t => t.drop n
theorem DqAll.reverse {H : Hp} {p : Addr} : ∀ {vs : List V} {ds : List PyData}, DqAll H p vs ds → DqAll H p vs.reverse ds.reverse
  | _, _, .nil => .nil
  | _, _, .cons r t => by
    rw [List.reverse_cons, List.reverse_cons]
    exact t.reverse.append (.cons r .nil)
theorem DqAll.get {H : Hp} {p : Addr} : ∀ {vs : List V} {ds : List PyData} {i : Nat} {d : PyData}, DqAll H p vs ds → ds[i]? = some d → ∃ v, vs[i]? = some v ∧ Dq H p v d
  | _, _, _, _, .nil, e => by simp at e
  | _, _, 0, _, .cons r _, e => by simp at e; subst e; exact ⟨_, rfl, r⟩
  | _, _, i + 1, d, .cons _ t, e => by
    obtain ⟨v, h1, h2⟩ := t.get (i := i) (d := d) (by simpa using e)
    exact ⟨v, by simpa using h1, h2⟩
/-- its type -/
def tyD : PyData → String
  | .none => "NoneType"
  | .bool _ => "bool"
  | .int _ => "int"
  | .str _ => "str"
  | .list _ => "list"
  | .tuple _ => "tuple"
  | .dict _ => "dict"
theorem Dq.ty {K : PySem.W.Frag} {H : Hp} {p : Addr} {v : V} {d : PyData} (h : Dq H p v d) : TyR K H v (.type (tyD d)) := by
  cases h with
  | non => exact .old .non
  | bl b => exact .old (.bl b)
  | int i => exact .old (.int i)
  | str x => exact .old (.str x)
  | lst e _ _ _ => exact .old (.lst e)
  | tup e _ => exact .old (.tup e)
  | dct e => exact .old (.dK e)
section
variable {X : Cx} {pins : List (Addr × Obj)} {σ : St} {H : Hp} {s : Shared} {p : Addr}
theorem kv_reads {P : Program} {w : World} {h : Heap} : ∀ {ijs : List (Int × Int)} {vs : List (Key × Value)} {es : List DictEntry}, KV (ijs.map fun x => ((Sum.inl x.1 : Key), V.int x.2)) vs → Pairs (mixKind P w) es vs →
    ReadsAll h (es.map (·.key)) (ijs.map fun x => PyData.int x.1) [] ∧ ReadsAll h (es.map (·.val)) (ijs.map fun x => PyData.int x.2) []
  | [], _, _, .nil, .nil => ⟨.nil, .nil⟩
  | x :: ijs, _, _, .cons r t, .cons (e := e) k1 k2 k3 => by
    obtain ⟨q1, q2⟩ := kv_reads (h := h) t k3
    obtain ⟨r1, r2⟩ := r
    obtain ⟨t2, e2⟩ := r2
    rw [← r1] at k1
    have k1' : keyIs (Sum.inl x.1) e.key = true := k1
    obtain ⟨t1, e1⟩ := Value.isInt_shape (k := x.1) (v := e.key) k1'
    refine ⟨?_, ?_⟩
    · show ReadsAll h (e.key :: _) (PyData.int x.1 :: _) ([] ++ [])
      rw [e1]
      exact .cons (.int _ _) q1
    · show ReadsAll h (e.val :: _) (PyData.int x.2 :: _) ([] ++ [])
      rw [k2, e2]
      exact .cons (.int _ _) q2
mutual
theorem Dq.reads (I : Inv X pins σ H s) : ∀ (d : PyData) (v : V) (u : Value), Dq H p v d → RelV v u → ∃ as, Reads s.heap u d as ∧ sysModules ∉ as
  | .none, _, _, h, r => by
    cases h
    cases r
    exact ⟨_, Reads.none, by simp⟩
  | .bool b, _, _, h, r => by
    cases h
    cases r
    exact ⟨_, Reads.bool b, by simp⟩
  | .int i, _, _, h, r => by
    cases h
    obtain ⟨t, rfl⟩ := r
    exact ⟨_, Reads.int i t, by simp⟩
  | .str x, _, _, h, r => by
    cases h
    obtain ⟨t, rfl⟩ := r
    exact ⟨_, Reads.str x t, by simp⟩
  | .list ds, _, _, h, r => by
    cases h with
    | lst e n m ha =>
      cases r
      obtain ⟨its, rv, ⟨o, n', ho, hc, _, hd⟩, _⟩ := I.list (SqL.of (K := X.K) e)
      obtain ⟨as, hr, hn⟩ := Dq.readsAll I ds _ its ha rv
      refine ⟨_, Reads.list ho hc hd hr, ?_⟩
      rw [List.mem_cons]
      rintro (z | z)
      · exact m z.symm
      · exact hn z
  | .tuple ds, _, _, h, r => by
    cases h with
    | tup e ha =>
      cases r
      obtain ⟨its, rv, ⟨o, ho, hc, n, hd⟩, _⟩ := I.tuple (SqT.of (K := X.K) e)
      obtain ⟨as, hr, hn⟩ := Dq.readsAll I ds _ its ha rv
      exact ⟨_, Reads.tuple ho hc hd hr, hn⟩
  | .dict kvs, v, u, h, r => by
    generalize hk : kvs = kvs' at h
    cases h with
    | @dct a ijs e =>
      cases r
      obtain ⟨_, hm, vs, rv, o, es, ep, ho, hc, hd, _, pr, _⟩ := dk_of I.hok e
      obtain ⟨q1, q2⟩ := kv_reads (h := s.heap) rv pr
      refine ⟨_, Reads.dict (as := []) (bs := []) ho hc.1 hd ?_ ?_, ?_⟩
      · rw [List.map_map]; exact q1
      · rw [List.map_map]; exact q2
      · have : a ≠ sysModules := by simpa using hm
        simp
        exact fun z => this z.symm
theorem Dq.readsAll (I : Inv X pins σ H s) : ∀ (ds : List PyData) (vs : List V) (us : List Value), DqAll H p vs ds → Vals vs us → ∃ as, ReadsAll s.heap us ds as ∧ sysModules ∉ as
  | [], _, _, h, r => by
    cases h
    cases r
    exact ⟨_, ReadsAll.nil, by simp⟩
  | d :: ds, _, _, h, r => by
    cases h with
    | cons h1 h2 =>
      cases r with
      | cons r1 r2 =>
        obtain ⟨as, q1, n1⟩ := Dq.reads I d _ _ h1 r1
        obtain ⟨bs, q2, n2⟩ := Dq.readsAll I ds _ _ h2 r2
        refine ⟨_, ReadsAll.cons q1 q2, ?_⟩
        rw [List.mem_append]
        rintro (z | z)
        · exact n1 z
        · exact n2 z
end
end
end L2


set_option Elab.async false
set_option linter.all false
set_option maxRecDepth 100000
set_option maxHeartbeats 1000000
namespace HT
open PySem PySem.Spec PyProof.Rows
section
variable {prog : Program} {w : World} {A : Around} {E : Value → Shared → Prop} {s : Shared}
end
end HT
namespace L2
open PySem PySem.Spec PyProof.Rows
section
variable {X : Cx} {e st : Expr} {te ts : TE} {pos p2 : Pos}
end
end L2


set_option Elab.async false
set_option linter.all false
set_option maxRecDepth 100000
set_option maxHeartbeats 1000000
namespace HT
open PySem PySem.Spec PyProof.Rows PySem.Builtin
end HT
namespace L2
open PySem PySem.Spec PyProof.Rows
section
variable {X : Cx}
end
end L2


set_option Elab.async false
set_option linter.all false
set_option maxRecDepth 100000
set_option maxHeartbeats 1000000
namespace L2
open PySem PySem.Spec PyProof.Rows
section
variable {X : Cx}
variable {es : List Expr} {t : TA} {pos : Pos}
/-- a list of written items; it isn't where modules are kept -/
def tLstN (t : TA) : TE := fun σ H Q => t σ H fun xs H1 => xs.length ≤ sizeLine ∧ ∀ p, H1 p = none → p ≠ sysModules → Q (.ref p) (upd H1 p (.lst xs))
theorem pe_lstN (h : PA X es t) : PE X (.List es pos) (tLstN t) := by
  intro pins s σ H Q I hq
  refine wpAny_List_spliced (thn (h pos pins s σ H _ I hq) fun us s1 ⟨xs, H1, I1, r, z, q⟩ => ⟨by rw [← r.length]; exact z, ?_⟩)
  have hf : H1 s1.heap.objs.size = none := I1.hok.fresh (Nat.le_refl _)
  refine ⟨.ref s1.heap.objs.size, upd H1 s1.heap.objs.size (.lst xs), I1.laid (t' := s1.toks) (fun b u e => Heap.get?_push_of_some _ e) (Nat.le_refl _) ?_, rfl, q _ hf (Nat.ne_of_gt I1.big)⟩
  exact ⟨z, us, 0, r, Heap.get?_push_size _ rfl⟩
end
section
variable {X : Cx} {CX : CXT} {k : Nat} {f : Addr} {fd : FuncData} {ps : List Str} {sp : Sp} {E : XK} {dvs : List V} {ds : List Value} {pos : Pos} {e fe : Expr} {es : List Expr} {t : TA} {tf : TE}
end
end L2


set_option Elab.async false
set_option linter.all false
set_option maxRecDepth 100000
set_option maxHeartbeats 1000000
namespace L2
open PySem PySem.Spec PyProof.Rows
/-! ### what is known at one state of the names: for a body that may raise and stores no name -/
def PEat (X : Cx) (σ : St) (e : Expr) (t : TE) : Prop := ∀ (pins : List (Addr × Obj)) (s : Shared) (H : Hp) (Q : VK), Inv X pins σ H s → t σ H Q → wpAny (model X.prog X.w) X.A (eval e X.env) (EP X pins σ Q) X.xe s
section
variable {X : Cx} {CX : CXT} {k : Nat} {f : Addr} {fd : FuncData} {ps : List Str} {sp : Sp} {E : XK} {dvs : List V} {ds : List Value} {x : Str} {p pos : Pos} {e a b o c : Expr} {es : List Expr} {t : TA} {σ : St} {ta tb te to : TE} {tA : TT}
theorem PE.at (h : PE X e te) : PEat X σ e te := fun pins s H Q I q => h pins s σ H Q I q
variable {T name id : String} {r : V → List V → Hp → VK → Prop} {apos cpos : Pos}
end
end L2


set_option Elab.async false
set_option linter.all false
set_option maxRecDepth 100000
set_option maxHeartbeats 1000000
namespace L2
open PySem PySem.Spec PyProof.Rows
section
variable {X : Cx} {σ : St} {e : Expr} {te : TE} {pos : Pos}
end
section
variable {X : Cx} {pins : List (Addr × Obj)} {σ : St} {H : Hp} {s : Shared} {i : Nat} {n : Str}
end
section
variable {X : Cx} {body suite : List Stmt} {b0 : Stmt} {pos hpos p1 p2 tp : Pos} {n1 n2 v : Str} {i : Nat} {D1 D2 : Addr} {tb : XK → TS} {th : TS} {c}
end
end L2


set_option Elab.async false
set_option linter.all false
set_option maxRecDepth 100000
set_option maxHeartbeats 1000000
namespace L2
open PySem PySem.Spec PyProof.Rows
/-! ### errors that fly through loops -/
/-- an address that nothing hangs on -/
structure Loose (X : Cx) (pins : List (Addr × Obj)) (H : Hp) (T : Addr) : Prop where
  no : H T = none
  new : T ∈ X.ex ∨ X.s_0.heap.objs.size ≤ T
  nl : T ≠ X.env.locals
  nc : ∀ x c, X.env.cells.lookup x = some c → c ≠ T
  np : ∀ p ∈ X.pn ++ pins, p.1 ≠ T
def XS (X : Cx) (E : XK) : Value → Shared → Prop := fun e s' => ∃ (pins : List (Addr × Obj)) (σ : St) (H : Hp) (a C : Addr) (dx : Option Addr) (vs : Array Value), e = .ref a ∧ Inv X pins σ H s' ∧ Mut (H a) ∧ Rec s'.heap a C dx vs ∧ E (.ref a) none (upd H a (XR a C dx)) ∧
  (vs[1]? = some .none ∨ ∃ T fl, H a = some (XR a C dx) ∧ vs[1]? = some (.ref T) ∧ Trc s'.heap T fl ∧ (fl = .none ∨ fl = rawInt X.env.locals) ∧ T ≠ a ∧ Loose X pins H T)
abbrev Cx.lo (X : Cx) (E : XK) : Cx := { X with xe := XS X E }
section
variable {X : Cx} {pins : List (Addr × Obj)} {σ : St} {H : Hp} {s : Shared} {E : XK}
theorem Inv.lo (I : Inv X pins σ H s) : Inv (X.lo E) pins σ H s :=
  ⟨⟨I.ok.mod, I.ok.kind, I.ok.glob, I.ok.blt, I.ok.above, I.ok.inj, I.ok.has, I.ok.cab, I.ok.hd, I.ok.frames, I.ok.stk, I.ok.exf, I.ok.bs, I.ok.bsz, I.ok.noex, I.ok.exfs, I.ok.funs, I.ok.frf⟩, I.os, I.bare, I.base, I.loc, I.cell, I.free, I.freeC, I.pin, I.hok, I.len⟩
theorem Inv.unlo (I : Inv (X.lo E) pins σ H s) : Inv X pins σ H s :=
  ⟨⟨I.ok.mod, I.ok.kind, I.ok.glob, I.ok.blt, I.ok.above, I.ok.inj, I.ok.has, I.ok.cab, I.ok.hd, I.ok.frames, I.ok.stk, I.ok.exf, I.ok.bs, I.ok.bsz, I.ok.noex, I.ok.exfs, I.ok.funs, I.ok.frf⟩, I.os, I.bare, I.base, I.loc, I.cell, I.free, I.freeC, I.pin, I.hok, I.len⟩
theorem PSs.lo {body : List Stmt} {t : TS} (h : PSs (X.lo E) body t) (hx : ∀ e s', XS X E e s' → X.xe e s') : PSs X body t := by
  intro pins s σ H D I q
  refine wpAny_mono (h pins s σ H D I.lo q) (fun f s' hf => ?_) hx
  cases f with
  | next => obtain ⟨σ', H', I', z⟩ := hf; exact ⟨σ', H', I'.unlo, z⟩
  | brk => obtain ⟨σ', H', I', z⟩ := hf; exact ⟨σ', H', I'.unlo, z⟩
  | cont => obtain ⟨σ', H', I', z⟩ := hf; exact ⟨σ', H', I'.unlo, z⟩
  | ret u => obtain ⟨v, σ', H', I', z⟩ := hf; exact ⟨v, σ', H', I'.unlo, z⟩
end
section
variable {cm : Bool} {P : Program} {w : World} {K : PySem.W.Frag} {mg : Str → Option Value} {base : Heap} {N : List Str} {qual : Str} {scope : Scope} {f : Addr} {cd : Value} {A : Around} {outer : List Env} {s0 : Shared} {H0 : Hp} {E : XK}
end
end L2


set_option Elab.async false
set_option linter.all false
set_option maxRecDepth 100000
set_option maxHeartbeats 1600000
namespace LN
open PySem L2
end LN
namespace L2
open PySem PySem.Spec PyProof.Rows
theorem for_enum {K : PySem.W.Frag} {a : Addr} {xs : List V} {g : TG} {tb : TS} {D : Ends} {σ : St} {H : Hp} (Pv : Nat → St → Hp → Prop) (h0 : Pv 0 σ H) (hl : ∀ i σ H, i ≤ xs.length → Pv i σ H → SqL K H a xs)
    (hs : ∀ i x T σ H, xs[i]? = some x → H T = none → Pv i σ H → g (.ref T) σ (upd H T (.tup [.int (i : Nat), x])) fun σ2 H2 => tb { D with nx := Pv (i + 1), ct := Pv (i + 1), bk := D.nx } σ2 H2) (hd : ∀ σ H, Pv xs.length σ H → D.nx σ H) :
    ∃ W : Nat → Nat → St → Hp → Prop, (∃ m, W 0 m σ H) ∧ ∀ i m σ H, W i m σ H →
      ((Ite K a).stop i H ∧ D.nx σ H) ∨ ((Ite K a).go i H ∧ ∃ N : St → Hp → Prop, (∀ σ' H', N σ' H' → ∃ m', m' < m ∧ W (i + 1) m' σ' H') ∧ ∀ x H', (Ite K a).yld i H x H' → g x σ H' fun σ2 H2 => tb { D with nx := N, ct := N, bk := D.nx } σ2 H2) := by
  refine ⟨fun i m σ H => m = xs.length - i ∧ i ≤ xs.length ∧ Pv i σ H, ⟨xs.length, by simp, Nat.zero_le _, h0⟩, ?_⟩
  rintro i m σ H ⟨rfl, hi, p⟩
  have q := hl i σ H hi p
  by_cases hlt : i < xs.length
  · refine .inr ⟨⟨xs, xs[i], q, by simp [hlt]⟩, Pv (i + 1), fun σ' H' p' => ⟨xs.length - (i + 1), by omega, rfl, hlt, p'⟩, fun x H' y => ?_⟩
    obtain ⟨T, z, rfl, hT, rfl, y⟩ := y
    exact hs i z T σ H (y xs q) hT p
  · have e : i = xs.length := by omega
    subst e
    exact .inl ⟨⟨xs, q, Nat.le_refl _⟩, hd σ H p⟩
end L2
namespace L2
open PySem PySem.Spec PyProof.Rows LN
section
variable {X : Cx} {p : Addr} {e : Expr} {es : List Expr} {d : PyData} {ds : List PyData} {pos : Pos}
theorem pe_weakQ {t t' : TE} (h : PE X e t) (k : ∀ σ H Q, t' σ H Q → t σ H Q) : PE X e t' := fun pins s σ H Q I z => h pins s σ H Q I (k σ H Q z)
theorem pa_weakQ {t t' : TA} (h : PA X es t) (k : ∀ σ H Q, t' σ H Q → t σ H Q) : PA X es t' := fun pos pins s σ H Q I z => h pos pins s σ H Q I (k σ H Q z)
theorem stillS {H H' : Hp} (hp : PotAt H p) (S : Same H H') : Still p H H' := by
  obtain ⟨n, hp⟩ := hp
  exact ⟨⟨_, hp⟩, fun b o h _ => S b o h⟩
/-- e gives the thing d, whatever else is made -/
def tQ (p : Addr) (d : PyData) : TE := fun σ H Q => PotAt H p ∧ ∀ v H', Same H H' → Dq H' p v d → Q v H'
def tQs (p : Addr) (ds : List PyData) : TA := fun σ H Q => PotAt H p ∧ ∀ vs H', Same H H' → DqAll H' p vs ds → Q vs H'
theorem q_non {j} : PE X (.Constant .none j pos) (tQ p .none) := pe_weakQ pe_non fun σ H Q z => z.2 _ H (Same.refl H) .non
theorem q_bl {b : Bool} {j} : PE X (.Constant (.bool b) j pos) (tQ p (.bool b)) := pe_weakQ pe_bl fun σ H Q z => z.2 _ H (Same.refl H) (.bl b)
theorem q_int {i : Int} {j} : PE X (.Constant (.int i) j pos) (tQ p (.int i)) := pe_weakQ pe_int fun σ H Q z => z.2 _ H (Same.refl H) (.int i)
theorem q_str {x : Str} {j} : PE X (.Constant (.str x) j pos) (tQ p (.str x)) := pe_weakQ pe_str fun σ H Q z => z.2 _ H (Same.refl H) (.str x)
theorem q_neg {i : Int} {j} {pos2 : Pos} : PE X (.UnaryOp .USub (.Constant (.int i) j pos2) pos) (tQ p (.int (-i))) := pe_weakQ (pe_un un_neg pe_int) fun σ H Q z => ⟨_, rfl, z.2 _ H (Same.refl H) (.int _)⟩
theorem q_pow {j j2} {p1 p2 : Pos} : PE X (.BinOp (.Constant (.int 10) j p1) .Pow (.Constant (.int 30) j2 p2) pos) (tQ p (.int (10 ^ 30))) := pe_weakQ (pe_op op_pow pe_int pe_int) fun σ H Q z => ⟨_, _, rfl, rfl, ⟨by decide, by decide, by decide⟩, z.2 _ H (Same.refl H) (.int _)⟩
theorem q_nil : PA X [] (tQs p []) := pa_weakQ pa_nil fun σ H Q z => z.2 [] H (Same.refl H) .nil
theorem q_cons (h : PE X e (tQ p d)) (hs : PA X es (tQs p ds)) (hst : starEach (e :: es) X.env = (false, eval e X.env) :: starEach es X.env := by rfl) : PA X (e :: es) (tQs p (d :: ds)) :=
  pa_weakQ (pa_cons h hs hst) fun σ H Q z => ⟨z.1, fun v H1 S1 D1 => ⟨z.1.same S1, fun vs H2 S2 D2 => z.2 (v :: vs) H2 (S1.trans S2) (.cons (Dq.still (stillS (z.1.same S1) S2) d _ D1) D2)⟩⟩
theorem q_tup {j} (h : PA X es (tQs p ds)) (hl : ds.length ≤ 1000) : PE X (.Tuple es j pos) (tQ p (.tuple ds)) :=
  pe_weakQ (pe_tup h) fun σ H Q z => ⟨z.1, fun vs H1 S1 D1 => ⟨by rw [D1.length]; exact Nat.le_of_lt (small1000 hl), fun q hq => z.2 (.ref q) _ (S1.trans (same_new hq)) (.tup upd_same (DqAll.still (stillS (z.1.same S1) (same_new hq)) ds _ D1))⟩⟩
theorem q_lst (h : PA X es (tQs p ds)) (hl : ds.length ≤ 1000) : PE X (.List es pos) (tQ p (.list ds)) :=
  pe_weakQ (pe_lstN h) fun σ H Q z => ⟨z.1, fun vs H1 S1 D1 => ⟨by rw [D1.length]; exact Nat.le_of_lt (small1000 hl), fun q hq hm => z.2 (.ref q) _ (S1.trans (same_new hq)) (.lst upd_same (by
    obtain ⟨n, hp⟩ := z.1.same S1
    exact Ne.symm (ne_of_none hp hq)) hm (DqAll.still (stillS (z.1.same S1) (same_new hq)) ds _ D1))⟩⟩
theorem q_d0 : PE X (.Dict [] [] pos) (tQ p (.dict [])) := pe_weakQ pe_dnewK fun σ H Q z q hq => z.2 _ _ (same_new hq) (.dct (ijs := []) upd_same)
theorem q_d1 {i j : Int} {j1 j2} {p1 p2 : Pos} : PE X (.Dict [some (.Constant (.int i) j1 p1)] [.Constant (.int j) j2 p2] pos) (tQ p (.dict [(.int i, .int j)])) :=
  pe_weakQ (pe_disp (pps_cons pe_int pe_int pps_nil) (by rfl) (by rfl) (fun z => by cases z) (by show 1 ≤ 15; decide)) fun σ H Q z q hq => ⟨upd_same, [(Sum.inl i, .int j)], rfl, (by show 1 ≤ 15; decide), z.2 _ _ (by rw [upd_upd]; exact same_new hq) (.dct (ijs := [(i, j)]) upd_same)⟩
mutual
/-- a written thing -/
def qOf : Nat → Expr → Option PyData
  | 0, _ => none
  | _ + 1, .Constant .none _ _ => some .none
  | _ + 1, .Constant (.bool b) _ _ => some (.bool b)
  | _ + 1, .Constant (.int i) _ _ => some (.int i)
  | _ + 1, .Constant (.str x) _ _ => some (.str x)
  | _ + 1, .UnaryOp .USub (.Constant (.int i) _ _) _ => some (.int (-i))
  | _ + 1, .BinOp (.Constant (.int a) _ _) .Pow (.Constant (.int b) _ _) _ => if a = 10 ∧ b = 30 then some (.int (10 ^ 30)) else none
  | n + 1, .Tuple es _ _ => (qsOf n es).map .tuple
  | n + 1, .List es _ => (qsOf n es).map .list
  | _ + 1, .Dict [] [] _ => some (.dict [])
  | _ + 1, .Dict [some (.Constant (.int i) _ _)] [.Constant (.int j) _ _] _ => some (.dict [(.int i, .int j)])
  | _ + 1, _ => none
def qsOf : Nat → List Expr → Option (List PyData)
  | _, [] => some []
  | 0, _ :: _ => none
  | n + 1, e :: es => match qOf n e, qsOf n es with
    | some d, some ds => some (d :: ds)
    | _, _ => none
end
theorem star_of {n : Nat} {env : Env} (h : qOf n e = some d) : starEach (e :: es) env = (false, eval e env) :: starEach es env := by
  cases n with
  | zero => simp [qOf] at h
  | succ n => cases e <;> first | rfl | (simp [qOf] at h)
theorem qs_len : ∀ {n : Nat} {es : List Expr} {ds : List PyData}, qsOf n es = some ds → ds.length ≤ n
  | _, [], _, h => by
    unfold qsOf at h
    cases h
    exact Nat.zero_le _
  | 0, _ :: _, _, h => by simp [qsOf] at h
  | n + 1, e :: es, ds, h => by
    unfold qsOf at h
    split at h
    · rename_i d ds' h1 h2
      cases h
      have := qs_len h2
      rw [List.length_cons]
      omega
    · cases h
mutual
theorem q_of : ∀ {n : Nat} {e : Expr} {d : PyData}, n ≤ 1000 → qOf n e = some d → PE X e (tQ p d)
  | 0, _, _, _, h => by simp [qOf] at h
  | n + 1, e, d, hn, h => by
    unfold qOf at h
    split at h
    all_goals first
      | (rename_i z; cases z; done)
      | skip
    all_goals first
      | (cases h; first | exact q_non | exact q_bl | exact q_int | exact q_str | exact q_neg | exact q_d0 | exact q_d1)
      | skip
    all_goals first
      | (split at h
         · rename_i z
           cases h
           obtain ⟨rfl, rfl⟩ := z
           exact q_pow
         · cases h)
      | skip
    · rename_i es _ _ e1 _
      obtain ⟨ds, h1, rfl⟩ := Option.map_eq_some_iff.mp h
      cases e1
      exact q_tup (qs_of (by omega) h1) (by have := qs_len h1; omega)
    · rename_i es _ e1 _
      obtain ⟨ds, h1, rfl⟩ := Option.map_eq_some_iff.mp h
      cases e1
      exact q_lst (qs_of (by omega) h1) (by have := qs_len h1; omega)
    · cases h
theorem qs_of : ∀ {n : Nat} {es : List Expr} {ds : List PyData}, n ≤ 1000 → qsOf n es = some ds → PA X es (tQs p ds)
  | _, [], _, _, h => by
    unfold qsOf at h
    cases h
    exact q_nil
  | 0, _ :: _, _, _, h => by simp [qsOf] at h
  | n + 1, e :: es, ds, hn, h => by
    unfold qsOf at h
    split at h
    · rename_i d ds' h1 h2
      cases h
      exact q_cons (q_of (by omega) h1) (qs_of (by omega) h2) (star_of h1)
    · cases h
end
end
end L2
namespace LN
open PySem L2
end LN
namespace L2
open PySem
end L2


set_option Elab.async false
set_option linter.all false
set_option maxRecDepth 100000
set_option maxHeartbeats 3200000
namespace L2
open PySem PySem.Spec PyProof.Rows
/-! ### set(xs) of texts, some of them alike perhaps -/
section
variable {prog : Program} {w : World} {A : Around} {R : Result → Shared → Prop} {I : Addr} {fp wr : List Addr} {G : Array GenState → Array GenState → Prop} {n : Nat} {P : Nat → Value → Prop} {St : Nat → Shared → Prop}
end
section
variable {prog : Program} {w : World} {A : Around} {E : Value → Shared → Prop} {s : Shared}
end
section
variable {X : Cx}
end
end L2


set_option Elab.async false
set_option linter.all false
set_option maxRecDepth 100000
set_option maxHeartbeats 1000000
namespace L2
open PySem PySem.Spec PyProof.Rows
section
variable {X : Cx} {e st : Expr} {te ts : TE} {pos p2 : Pos}
end
end L2


set_option Elab.async false
set_option linter.all false
set_option maxRecDepth 100000
set_option maxHeartbeats 1000000
namespace L2
open PySem PySem.Spec PyProof.Rows
/-- a dict that stands at the top from the start -/
structure StD (P : Program) (w : World) (K : PySem.W.Frag) (a : Addr) (kvs : List (Key × Value)) : Prop where
  ne : (a == sysModules) = false
  at_ : ∃ o, K.lookup a = some o ∧ o.IsDictOf (mixKind P w) kvs
section
variable {X : Cx} {o i e : Expr} {apos cpos pos : Pos} {ty : TE} {a : Addr} {kvs : List (Key × Value)}
end
end L2


set_option Elab.async false
set_option linter.all false
set_option maxRecDepth 100000
set_option maxHeartbeats 1000000
namespace L2
open PySem PySem.Spec PyProof.Rows
section
variable {prog : Program} {w : World} {A : Around} {E : Value → Shared → Prop} {s : Shared}
end
end L2
namespace L2
open PySem PySem.Spec PyProof.Rows
section
variable {X : Cx} {o e f : Expr} {apos cpos : Pos} {td ty tx : TE}
end
end L2


set_option Elab.async false
set_option linter.all false
set_option maxRecDepth 100000
set_option maxHeartbeats 1000000
namespace L2
open PySem PySem.Spec PyProof.Rows
/-! ### a list by a comprehension, at a place that is not the modules' -/
section
variable {X : Cx}
end
end L2


set_option Elab.async false
set_option linter.all false
set_option maxRecDepth 100000
set_option maxHeartbeats 800000
namespace L2
open PySem PySem.Spec PyProof.Rows
section
variable {X : Cx}
end
end L2


set_option Elab.async false
set_option linter.all false
set_option maxRecDepth 100000
set_option maxHeartbeats 1600000
namespace L2
open PySem PySem.W PyProof.Rows
/-! ### the library's sort of fewer than 64 things by any order, where what is asked leaves the heap alone -/
section
variable {O : KeyOrd} {key : Nat → O.α} {n : Nat} {s : Shared} {cmp : Nat → Nat → (Bool → Shared → Prop) → Shared → Prop}
/-- the key of what stands at a place -/
def gk (O : KeyOrd) (key : Nat → O.α) (p : Array Nat) (i : Nat) : O.α := key (p.getD i 0)
def PR (n : Nat) (p : Array Nat) : Prop := p.Perm (List.toArray (List.range n))
def Asks (O : KeyOrd) (key : Nat → O.α) (n : Nat) (s : Shared) (cmp : Nat → Nat → (Bool → Shared → Prop) → Shared → Prop) : Prop :=
  ∀ (i j : Nat) (C : Bool → Shared → Prop), i < n → j < n → C (O.blt (key i) (key j)) s → cmp i j C s
def SU (O : KeyOrd) (key : Nat → O.α) (p : Array Nat) (k : Nat) : Prop := ∀ i j, i ≤ j → j < k → O.kle (gk O key p i) (gk O key p j)
def SD (O : KeyOrd) (key : Nat → O.α) (p : Array Nat) (k : Nat) : Prop := ∀ i j, i ≤ j → j < k → O.kle (gk O key p j) (gk O key p i)
theorem PR.size {p : Array Nat} (h : PR n p) : p.size = n := by
  have := h.size_eq
  simpa using this
theorem PR.lt {p : Array Nat} (h : PR n p) {i : Nat} (hi : i < n) : p.getD i 0 < n := by
  have hs : i < p.size := by rw [h.size]; exact hi
  have e : p.getD i 0 = p[i] := by simp [Array.getD, hs]
  rw [e]
  have hm : p[i] ∈ List.toArray (List.range n) := h.mem_iff.mp (Array.getElem_mem hs)
  simpa using hm
theorem getD_of {p q : Array Nat} {i j : Nat} (h : p[i]? = q[j]?) : p.getD i 0 = q.getD j 0 := by
  rw [Array.getD_eq_getD_getElem?, Array.getD_eq_getD_getElem?, h]
theorem gk_of {p q : Array Nat} {i j : Nat} (h : p[i]? = q[j]?) : gk O key p i = gk O key q j := congrArg key (getD_of h)
theorem PR.rev {p : Array Nat} (h : PR n p) (i j : Nat) : PR n (kas_rev p i j) := (mirror_perm _ _ _ _).trans h
theorem PR.bub {p : Array Nat} (h : PR n p) (i j : Nat) : PR n (bubble p i j) := (bubble_perm _ _ _).trans h
theorem gk_rev {p : Array Nat} {i j : Nat} (hj : j ≤ p.size) (k : Nat) : gk O key (kas_rev p i j) k = if i ≤ k ∧ k < j then gk O key p (i + j - 1 - k) else gk O key p k := by
  have e := getElem?_mirror_all (xs := p) (i := i) hj k
  by_cases c : i ≤ k ∧ k < j
  · rw [if_pos c] at e ⊢; exact gk_of e
  · rw [if_neg c] at e ⊢; exact gk_of e
theorem gk_bub {p : Array Nat} {src d : Nat} (hs : src < p.size) (hd : d ≤ src) (k : Nat) :
    gk O key (bubble p src d) k = if k = src - d then gk O key p src else if src - d < k ∧ k ≤ src then gk O key p (k - 1) else gk O key p k := by
  have e := getElem?_bubble hs d hd k
  by_cases c : k = src - d
  · rw [if_pos c] at e ⊢; exact gk_of e
  · rw [if_neg c] at e ⊢
    by_cases c2 : src - d < k ∧ k ≤ src
    · rw [if_pos c2] at e ⊢; exact gk_of e
    · rw [if_neg c2] at e ⊢; exact gk_of e
/-- an equal block turned about -/
theorem gk_rev_eq {p : Array Nat} {i j : Nat} (hj : j ≤ p.size) (he : ∀ k, i ≤ k → k < j → gk O key p k = gk O key p (j - 1)) (k : Nat) : gk O key (kas_rev p i j) k = gk O key p k := by
  rw [gk_rev hj]
  by_cases c : i ≤ k ∧ k < j
  · rw [if_pos c, he _ (by omega) (by omega), he k c.1 c.2]
  · rw [if_neg c]
theorem asc_ok {p : Array Nat} (hc : Asks O key n s cmp) (hp : PR n p) : ∀ (f a : Nat) {Q : Nat → Shared → Prop}, a + f = n → 1 ≤ a → SU O key p a →
    (∀ m, a ≤ m → m ≤ n → SU O key p m → (m = n ∨ O.blt (gk O key p m) (gk O key p (m - 1)) = true) → Q m s) → (kas_asc p f a).kasWp cmp Q s
  | 0, a, Q, hf, h1, hs, q => q a (Nat.le_refl _) (by omega) hs (.inl (by omega))
  | f + 1, a, Q, hf, h1, hs, q => by
    show cmp _ _ _ s
    refine hc _ _ _ (hp.lt (by omega)) (hp.lt (by omega)) ?_
    show KasT.kasWp cmp (if O.blt (gk O key p a) (gk O key p (a - 1)) = true then _ else _) Q s
    by_cases c : O.blt (gk O key p a) (gk O key p (a - 1)) = true
    · rw [if_pos c]
      exact q a (Nat.le_refl _) (by omega) hs (.inr c)
    · rw [if_neg c]
      refine asc_ok hc hp f (a + 1) (by omega) (by omega) (fun i j hij hj => ?_) fun m hm => q m (by omega)
      by_cases e : j = a
      · subst e
        by_cases e2 : i = j
        · subst e2; exact KeyOrd.kle_refl _
        · exact KeyOrd.kle_trans (hs i (j - 1) (by omega) (by omega)) (KeyOrd.kle_of_not_klt c)
      · exact hs i j hij (by omega)
theorem desc_ok (hc : Asks O key n s cmp) : ∀ (f : Nat) (p : Array Nat) (a q : Nat) {Q : Array Nat × Nat × Nat → Shared → Prop}, PR n p → a + f = n → 1 ≤ a → q + 1 ≤ a → SD O key p a → (∀ k, a - (q + 1) ≤ k → k < a → gk O key p k = gk O key p (a - 1)) →
    (∀ p' a' q', PR n p' → 1 ≤ a' → a' ≤ n → q' + 1 ≤ a' → SD O key p' a' → (∀ k, a' - (q' + 1) ≤ k → k < a' → gk O key p' k = gk O key p' (a' - 1)) → Q (p', a', q') s) → (kas_desc f p a q).kasWp cmp Q s
  | 0, p, a, q, Q, hp, hf, h1, hq, hs, hb, k => k p a q hp h1 (by omega) hq hs hb
  | f + 1, p, a, q, Q, hp, hf, h1, hq, hs, hb, k => by
    show cmp _ _ _ s
    refine hc _ _ _ (hp.lt (by omega)) (hp.lt (by omega)) ?_
    show KasT.kasWp cmp (if O.blt (gk O key p a) (gk O key p (a - 1)) = true then _ else _) Q s
    have grow : ∀ p' : Array Nat, (∀ i, gk O key p' i = gk O key p i) → O.kle (gk O key p a) (gk O key p (a - 1)) → SD O key p' (a + 1) := fun p' e l i j hij hj => by
      rw [e, e]
      by_cases ej : j = a
      · subst ej
        by_cases e2 : i = j
        · subst e2; exact KeyOrd.kle_refl _
        · exact KeyOrd.kle_trans l (hs i (j - 1) (by omega) (by omega))
      · exact hs i j hij (by omega)
    have one : ∀ p' : Array Nat, ∀ k, a + 1 - (0 + 1) ≤ k → k < a + 1 → gk O key p' k = gk O key p' (a + 1 - 1) := fun p' k h1 h2 => by
      rw [show k = a + 1 - 1 by omega]
    by_cases c : O.blt (gk O key p a) (gk O key p (a - 1)) = true
    · rw [if_pos c]
      have l := KeyOrd.kle_of_klt c
      by_cases cq : q > 0
      · rw [if_pos cq]
        have e := gk_rev_eq (O := O) (key := key) (p := p) (i := a - (q + 1)) (j := a) (by rw [hp.size]; omega) hb
        exact desc_ok hc f _ (a + 1) 0 (hp.rev _ _) (by omega) (by omega) (by omega) (grow _ e l) (one _) k
      · rw [if_neg cq]
        exact desc_ok hc f p (a + 1) 0 hp (by omega) (by omega) (by omega) (grow p (fun _ => rfl) l) (one p) k
    · rw [if_neg c]
      show cmp _ _ _ s
      refine hc _ _ _ (hp.lt (by omega)) (hp.lt (by omega)) ?_
      show KasT.kasWp cmp (if O.blt (gk O key p (a - 1)) (gk O key p a) = true then _ else _) Q s
      by_cases d : O.blt (gk O key p (a - 1)) (gk O key p a) = true
      · rw [if_pos d]
        exact k p a q hp h1 (by omega) hq hs hb
      · rw [if_neg d]
        have e : gk O key p a = gk O key p (a - 1) := O.total _ _ (by simpa using c) (by simpa using d)
        refine desc_ok hc f p (a + 1) (q + 1) hp (by omega) (by omega) (by omega) (grow p (fun _ => rfl) (by rw [e]; exact KeyOrd.kle_refl _)) (fun i h2 h3 => ?_) k
        show gk O key p i = gk O key p (a + 1 - 1)
        rw [show a + 1 - 1 = a by omega]
        by_cases ei : i = a
        · rw [ei]
        · rw [e]; exact hb i (by omega) (by omega)
theorem tail_ok {p : Array Nat} {a : Nat} {Q : Nat × Array Nat → Shared → Prop} (hc : Asks O key n s cmp) (hp : PR n p) (h1 : 1 ≤ a) (ha : a ≤ n) (hs : SD O key p a)
    (k : ∀ m p', PR n p' → 1 ≤ m → m ≤ n → SU O key p' m → Q (m, p') s) : (kas_tail3 a n p).kasWp cmp Q s := by
  unfold kas_tail3
  rw [KasT.kasWp_bind]
  refine asc_ok hc (hp.rev 0 a) (n - a) a (by omega) h1 (fun i j hij hj => ?_) fun m h2 h3 h4 _ => k m _ (hp.rev 0 a) (by omega) h3 h4
  rw [gk_rev (by rw [hp.size]; exact ha), gk_rev (by rw [hp.size]; exact ha), if_pos ⟨Nat.zero_le _, by omega⟩, if_pos ⟨Nat.zero_le _, hj⟩]
  exact hs _ _ (by omega) (by omega)
theorem descPart_ok {p : Array Nat} {a : Nat} {Q : Nat × Array Nat → Shared → Prop} (hc : Asks O key n s cmp) (hp : PR n p) (h1 : 1 ≤ a) (ha : a + 1 ≤ n) (hs : SD O key p (a + 1))
    (k : ∀ m p', PR n p' → 1 ≤ m → m ≤ n → SU O key p' m → Q (m, p') s) : (kas_descPart a n p).kasWp cmp Q s := by
  unfold kas_descPart
  rw [KasT.kasWp_bind]
  refine desc_ok hc (n - (a + 1)) p (a + 1) 0 hp (by omega) (by omega) (by omega) hs (fun i h2 h3 => by rw [show i = a + 1 - 1 by omega]) fun p' a' q' hp' h1' ha' hq' hs' hb' => ?_
  show KasT.kasWp cmp (if q' > 0 then _ else _) Q s
  by_cases cq : q' > 0
  · rw [if_pos cq]
    have e := gk_rev_eq (O := O) (key := key) (p := p') (i := a' - (q' + 1)) (j := a') (by rw [hp'.size]; omega) hb'
    exact tail_ok hc (hp'.rev _ _) h1' ha' (fun i j hij hj => by rw [e, e]; exact hs' i j hij hj) k
  · rw [if_neg cq]
    exact tail_ok hc hp' h1' ha' hs' k
theorem count_ok {p : Array Nat} {Q : Nat × Array Nat → Shared → Prop} (hc : Asks O key n s cmp) (hp : PR n p) (h1 : 1 ≤ n)
    (k : ∀ m p', PR n p' → 1 ≤ m → m ≤ n → SU O key p' m → Q (m, p') s) : (kas_count n p).kasWp cmp Q s := by
  unfold kas_count
  rw [KasT.kasWp_bind]
  refine asc_ok hc hp (n - 1) 1 (by omega) (by omega) (fun i j hij hj => by rw [show i = j by omega]; exact KeyOrd.kle_refl _) fun m h2 h3 h4 h5 => ?_
  by_cases cn : (m == n) = true
  · rw [if_pos cn]
    exact k m p hp h2 h3 h4
  · rw [if_neg cn]
    have hmn : m ≠ n := fun z => cn (by rw [z]; simp)
    have hb : O.blt (gk O key p m) (gk O key p (m - 1)) = true := h5.resolve_left hmn
    by_cases c1 : m > 1
    · rw [if_pos c1]
      show cmp _ _ _ s
      refine hc _ _ _ (hp.lt (by omega)) (hp.lt (by omega)) ?_
      show KasT.kasWp cmp (if O.blt (gk O key p 0) (gk O key p (m - 1)) = true then _ else _) Q s
      by_cases d : O.blt (gk O key p 0) (gk O key p (m - 1)) = true
      · rw [if_pos d]
        exact k m p hp h2 h3 h4
      · rw [if_neg d]
        have eq0 : ∀ i, i < m → gk O key p i = gk O key p (m - 1) := fun i hi =>
          KeyOrd.kle_antisymm (h4 i (m - 1) (by omega) (by omega)) (KeyOrd.kle_trans (KeyOrd.kle_of_not_klt d) (h4 0 i (Nat.zero_le _) hi))
        have e := gk_rev_eq (O := O) (key := key) (p := p) (i := 0) (j := m) (by rw [hp.size]; omega) fun i _ hi => eq0 i hi
        refine descPart_ok hc (hp.rev _ _) (by omega) (by omega) (fun i j hij hj => ?_) k
        rw [e, e]
        by_cases ej : j = m
        · subst ej
          by_cases e2 : i = j
          · subst e2; exact KeyOrd.kle_refl _
          · rw [eq0 i (by omega)]; exact KeyOrd.kle_of_klt hb
        · rw [eq0 i (by omega), eq0 j (by omega)]; exact KeyOrd.kle_refl _
    · rw [if_neg c1]
      obtain rfl : m = 1 := by omega
      refine descPart_ok hc hp (by omega) (by omega) (fun i j hij hj => ?_) k
      by_cases e2 : i = j
      · subst e2; exact KeyOrd.kle_refl _
      · obtain rfl : i = 0 := by omega
        obtain rfl : j = 1 := by omega
        exact KeyOrd.kle_of_klt hb
theorem place_ok {p : Array Nat} {a : Nat} (hc : Asks O key n s cmp) (hp : PR n p) (ha : a < n) (hs : SU O key p a) : ∀ (f l r : Nat) {Q : Nat → Shared → Prop}, r - l ≤ f → l ≤ r → r ≤ a → (∀ i, i < l → O.kle (gk O key p i) (gk O key p a)) → (∀ i, r ≤ i → i < a → O.kle (gk O key p a) (gk O key p i)) →
    (∀ m, m ≤ a → (∀ i, i < m → O.kle (gk O key p i) (gk O key p a)) → (∀ i, m ≤ i → i < a → O.kle (gk O key p a) (gk O key p i)) → Q m s) → (kas_place p a f l r).kasWp cmp Q s
  | 0, l, r, Q, hf, hl, hr, h1, h2, k => k l (by omega) h1 fun i hi => h2 i (by omega)
  | f + 1, l, r, Q, hf, hl, hr, h1, h2, k => by
    show KasT.kasWp cmp (if l ≥ r then _ else _) Q s
    by_cases c : l ≥ r
    · rw [if_pos c]
      exact k l (by omega) h1 fun i hi => h2 i (by omega)
    · rw [if_neg c]
      show cmp _ _ _ s
      refine hc _ _ _ (hp.lt ha) (hp.lt (by omega)) ?_
      show KasT.kasWp cmp (if O.blt (gk O key p a) (gk O key p ((l + r) / 2)) = true then _ else _) Q s
      by_cases d : O.blt (gk O key p a) (gk O key p ((l + r) / 2)) = true
      · rw [if_pos d]
        exact place_ok hc hp ha hs f l ((l + r) / 2) (by omega) (by omega) (by omega) h1 (fun i h3 h4 => KeyOrd.kle_trans (KeyOrd.kle_of_klt d) (hs _ i h3 h4)) k
      · rw [if_neg d]
        exact place_ok hc hp ha hs f ((l + r) / 2 + 1) r (by omega) (by omega) hr (fun i h3 => KeyOrd.kle_trans (hs i ((l + r) / 2) (by omega) (by omega)) (KeyOrd.kle_of_not_klt d)) h2 k
theorem bin_ok (hc : Asks O key n s cmp) : ∀ (f : Nat) (p : Array Nat) (a : Nat) {Q : Array Nat → Shared → Prop}, PR n p → a + f = n → SU O key p a → (∀ p', PR n p' → SU O key p' n → Q p' s) → (kas_bin f p a).kasWp cmp Q s
  | 0, p, a, Q, hp, hf, hs, k => k p hp (by rw [← hf]; exact hs)
  | f + 1, p, a, Q, hp, hf, hs, k => by
    show KasT.kasWp cmp ((kas_place p a a 0 a).bind _) Q s
    rw [KasT.kasWp_bind]
    refine place_ok hc hp (by omega) hs a 0 a (by omega) (by omega) (Nat.le_refl _) (fun i hi => absurd hi (by omega)) (fun i h1 h2 => absurd h2 (by omega)) fun m hm h1 h2 => ?_
    refine bin_ok hc f _ (a + 1) (hp.bub _ _) (by omega) (fun i j hij hj => ?_) k
    have hsz : a < p.size := by rw [hp.size]; omega
    rw [gk_bub hsz (by omega), gk_bub hsz (by omega), show a - (a - m) = m by omega]
    by_cases ei : i = m
    · rw [if_pos ei]
      by_cases ej : j = m
      · rw [if_pos ej]; exact KeyOrd.kle_refl _
      · rw [if_neg ej, if_pos ⟨by omega, by omega⟩]
        exact h2 _ (by omega) (by omega)
    · rw [if_neg ei]
      by_cases ej : j = m
      · rw [if_pos ej, if_neg (by omega)]
        exact h1 i (by omega)
      · rw [if_neg ej]
        by_cases ci : m < i ∧ i ≤ a
        · rw [if_pos ci, if_pos ⟨by omega, by omega⟩]
          exact hs _ _ (by omega) (by omega)
        · rw [if_neg ci]
          by_cases cj : m < j ∧ j ≤ a
          · rw [if_pos cj]
            exact hs _ _ (by omega) (by omega)
          · rw [if_neg cj]
            exact hs _ _ hij (by omega)
/-- the whole sort -/
theorem sort_ok {Q : Array Nat → Shared → Prop} (hc : Asks O key n s cmp) (h1 : 1 ≤ n) (k : ∀ p, PR n p → SU O key p n → Q p s) : (kas_sort n).kasWp cmp Q s := by
  unfold kas_sort
  rw [KasT.kasWp_bind]
  refine count_ok hc (Array.Perm.refl _) h1 fun m p hp h2 h3 h4 => ?_
  show KasT.kasWp cmp (if m < n then _ else _) Q s
  by_cases c : m < n
  · rw [if_pos c]
    have e : max m 1 = m := by omega
    rw [e]
    exact bin_ok hc (n - m) p m hp (by omega) h4 k
  · rw [if_neg c]
    obtain rfl : m = n := by omega
    exact k p hp h4
end
end L2


set_option Elab.async false
set_option linter.all false
set_option maxRecDepth 100000
set_option maxHeartbeats 1600000
namespace L2
open PySem PySem.W PyProof.Rows
/-! ### rows of ints in their order -/
@[reducible] def iOrd : KeyOrd := listOrd PyProof.Rows.intKind.toKeyOrd
theorem lex_same : ∀ a b : List Int, HT.lexLt a b = iOrd.blt a b
  | [], [] => rfl
  | [], _ :: _ => rfl
  | _ :: _, [] => rfl
  | x :: r, y :: t => by
    show HT.lexLt (x :: r) (y :: t) = (decide (x < y) || (!decide (y < x) && lexLt PyProof.Rows.intKind.toKeyOrd r t))
    rw [HT.lexLt_cons]
    by_cases e : x = y
    · subst e
      rw [if_pos rfl, lex_same r t]
      simp
    · rw [if_neg e]
      by_cases l : x < y
      · simp [l]
      · have l2 : y < x := by omega
        simp [l, l2]
theorem lex_self_cons (x : Int) (r t : List Int) : iOrd.blt (x :: r) (x :: t) = iOrd.blt r t := by
  rw [← lex_same, ← lex_same, HT.lexLt_cons, if_pos rfl]
theorem lex_diff_cons {x y : Int} (r t : List Int) (h : x ≠ y) : iOrd.blt (x :: r) (y :: t) = decide (x < y) := by
  rw [← lex_same, HT.lexLt_cons, if_neg h]
section
variable {prog : Program} {w : World} {A : Around} {E : Value → Shared → Prop} {s : Shared}
theorem items_ints : ∀ {vs : List Value} {ns : List Int}, IntsAre vs ns → ItemsAre (PySem.intKind prog w) ns vs
  | _, _, .nil => .nil
  | _, _, .cons n t r => .cons (intKind_is prog w _ _) (items_ints r)
theorem tup_key {a : Addr} {its : Array Value} {ns : List Int} (p : IsTup s.heap a its) (i : IntsAre its.toList ns) : IsTupleKey (PySem.intKind prog w) s.heap ns a := by
  obtain ⟨o, ho, hc, n, hd⟩ := p
  exact ⟨o, its, n, ho, hc, hd, items_ints i⟩
/-- two rows of ints, as the sort looks at them -/
theorem lex_rows {b fin : Bool} {Q : Bool → Shared → Prop} : ∀ {vs us : List Value} {ns ms : List Int} (i : Nat), IntsAre vs ns → IntsAre us ms → Q (iOrd.blt ns ms) s → fin = decide (vs.length < us.length) →
    KatLex prog w A b fin Q (vs.zip us) i s
  | _, _, _, _, i, .nil, .nil, h, e => by subst e; exact kat_nil h
  | _, _, _, _, i, .nil, .cons _ _ _, h, e => by
    refine kat_nil ?_
    rw [e, List.length_cons, decide_eq_true (by simp)]
    exact h
  | _, _, _, _, i, .cons _ _ _, .nil, h, e => by
    refine kat_nil ?_
    rw [e]
    exact h
  | _, _, _, _, i, .cons n t r, .cons m u q, h, e => by
    refine kat_cons (wpAny_eqBool_int ?_)
    by_cases c : n = m
    · subst c
      rw [show (n == n) = true by simp]
      refine kat_yes (lex_rows (i + 1) r q ?_ ?_)
      · rw [lex_self_cons] at h; exact h
      · rw [e, List.length_cons, List.length_cons]
        simp
    · rw [show (n == m) = false by simp [c]]
      refine kat_no (oneLt_any_int ?_)
      rw [lex_diff_cons _ _ c] at h
      exact h
theorem lt_rows {x y : Addr} {its ots : Array Value} {ns ms : List Int} {b : Bool} {Q : Bool → Shared → Prop} (px : IsTup s.heap x its) (py : IsTup s.heap y ots) (ix : IntsAre its.toList ns) (iy : IntsAre ots.toList ms) (h : Q (iOrd.blt ns ms) s) :
    wpAny (model prog w) A (keyLt' (tuples' b) (.ref x) (.ref y)) Q E s := by
  obtain ⟨o, ho, _, n, hd⟩ := px
  obtain ⟨u, hu, _, k, hk⟩ := py
  exact kat_lt ho hd hu hk (lex_rows 0 ix iy h (by rw [Array.length_toList, Array.length_toList]))
/-- two pairs of an int and a row -/
theorem lt_pairs {x y r q : Addr} {its ots : Array Value} {ns ms : List Int} {n m : Int} {t u : Tok} {Q : Bool → Shared → Prop} (hu : A.units < cLine) (px : IsTup s.heap x #[.int n t, .ref r]) (py : IsTup s.heap y #[.int m u, .ref q])
    (pr : IsTup s.heap r its) (pq : IsTup s.heap q ots) (ir : IntsAre its.toList ns) (iq : IntsAre ots.toList ms) (h : Q (iOrd.blt (n :: ns) (m :: ms)) s) :
    wpAny (model prog w) A (keyLt' (tuples' true) (.ref x) (.ref y)) Q E s := by
  obtain ⟨o, ho, _, k1, hd⟩ := px
  obtain ⟨v, hv, _, k2, hk⟩ := py
  refine kat_lt ho hd hv hk ?_
  refine kat_cons (wpAny_eqBool_int ?_)
  by_cases c : n = m
  · subst c
    rw [show (n == n) = true by simp]
    rw [lex_self_cons] at h
    refine kat_yes (kat_cons (wpAny_eqBool_tuple (knd := PySem.intKind prog w) hu (tup_key pr ir) (tup_key pq iq) ?_))
    by_cases d : ns = ms
    · rw [decide_eq_true d]
      refine kat_yes (kat_nil ?_)
      rw [d, iOrd.irrefl] at h
      exact h
    · rw [decide_eq_false d]
      refine kat_no (kat_one _ _ (HT.lt_tupInts pr pq ir iq hu ?_))
      show Q (HT.lexLt ns ms) s
      rw [lex_same]
      exact h
  · rw [show (n == m) = false by simp [c]]
    refine kat_no (oneLt_any_int ?_)
    rw [lex_diff_cons _ _ c] at h
    exact h
end
/-! ### list.sort() without a key, whatever is compared -/
section
variable {prog : Program} {w : World} {A : Around} {E : Value → Shared → Prop} {s : Shared} {O : KeyOrd} {key : Nat → O.α}
/-- what stands in order behind the sort -/
def outOf (vs : List Value) (p : Array Nat) : List Value := p.toList.map fun i => vs.getD i Value.none
theorem range_SU {n : Nat} (h : n < 2) : SU O key (List.toArray (List.range n)) n := fun i j hij hj => by
  rw [show i = j by omega]; exact KeyOrd.kle_refl _
theorem out_range (vs : List Value) : outOf vs (List.toArray (List.range vs.length)) = vs := by
  unfold outOf
  rw [List.toList_toArray]
  refine List.ext_getElem (by simp) fun i h1 h2 => ?_
  simp [List.getElem?_eq_getElem h2]
theorem out_len {vs : List Value} {p : Array Nat} (h : PR vs.length p) : (outOf vs p).length = vs.length := by
  unfold outOf
  rw [List.length_map, Array.length_toList, h.size]
theorem ls_any {kd : SortKind} {a : Addr} {vs : List Value} {n : Nat} {P : Fin → Shared → Prop} (ho : s.heap.get? a = some (seqObj "list" vs.toArray n)) (h64 : vs.length < 64)
    (hk : 2 ≤ vs.length → ∀ {R : SortKind → Shared → Prop}, R kd { s with heap := G.sortHeap6 s.heap a vs } → wpAny (model prog w) A (keyKind' vs.toArray) R E { s with heap := G.sortHeap6 s.heap a vs })
    (hc : Asks O key vs.length { s with heap := G.sortHeap6 s.heap a vs } (kas_ask prog w A kd vs))
    (h : ∀ p, PR vs.length p → SU O key p vs.length → P (.done (.ret .none)) { s with heap := sortedHeap s.heap a vs (outOf vs p).toArray }) :
    wpAny (model prog w) A (Builtin.«list.sort» ⟨[.ref a], []⟩) P E s := by
  have hlt := Heap.lt_size ho
  have hz := sizeLine_eq
  rw [list_sort_plain]
  refine wpAny_bind (listItems_at ho rfl (wpAny_bind (listUpdate_at ho rfl ?_ (by rw [List.size_toArray]; omega) (Nat.zero_le _))))
  obtain ⟨c1, hc1⟩ : ∃ c1, (s.heap.update a (Obj.mapSeq fun _ => #[])).get? a = some (seqObj "list" #[] c1) := ⟨_, get?_update_seq ho (fun _ => #[])⟩
  refine wpAny_bind (seqEpoch_at hc1 rfl (wpAny_bind (wpAny_newTuple ?_ (by show vs.length ≤ _; omega))))
  refine wpAny_bind (wpAny_newList ?_ (Nat.zero_le _))
  refine wpAny_holding ?_
  have h6 : (G.sortHeap6 s.heap a vs).get? a = some (seqObj "list" #[] c1) := by
    unfold G.sortHeap6
    rw [Heap.get?_push_ne _ _ _ (by rw [size_push', Heap.size_update]; exact Nat.ne_of_lt (Nat.lt_succ_of_lt hlt)), Heap.get?_push_ne _ _ _ (by rw [Heap.size_update]; exact Nat.ne_of_lt hlt)]
    exact hc1
  show wpAny (model prog w) A _ P E { s with heap := G.sortHeap6 s.heap a vs }
  dsimp only
  have hsz : vs.toArray.size = vs.length := List.size_toArray ..
  by_cases h2 : vs.toArray.size < 2
  · rw [if_pos h2, if_pos h2]
    refine wpAny_bind (wpAny_pure ?_)
    rw [StateT.run_pure]
    refine wpAny_bind (wpAny_pure ?_)
    dsimp only
    have e : (arrOf (SortSt.mk' general' (vs.toArray.zip vs.toArray) #[] 7 none)).map (·.2) = vs.toArray := by
      show (vs.toArray.zip vs.toArray).map (·.2) = vs.toArray
      apply Array.ext (by simp)
      intro i h1 h2
      simp
    refine wpAny_bind (seqEpoch_at h6 rfl ?_)
    have fin := h (List.toArray (List.range vs.length)) (Array.Perm.refl _) (range_SU (by omega))
    rw [out_range] at fin
    refine wpAny_bind (listUpdate_at h6 rfl ?_ (Nat.zero_le _) (by rw [e]; omega))
    simp only [bne_self_eq_false, Bool.false_eq_true, if_false]
    rw [e]
    exact wpAny_pure fin
  · rw [if_neg h2, if_neg h2]
    refine wpAny_bind (hk (by omega) ?_)
    try dsimp only
    refine wpAny_bind (wpAny_mono (kat_run (ks := vs) (vs := vs) (κ := kd) (Q := fun st' s' => s' = { s with heap := G.sortHeap6 s.heap a vs } ∧ failedOf st' = none ∧ ∃ p, PR vs.length p ∧ SU O key p vs.length ∧ (arrOf st').map (·.2) = (outOf vs p).toArray)
      (G := fun p s' => s' = { s with heap := G.sortHeap6 s.heap a vs } ∧ PR vs.length p ∧ SU O key p vs.length) rfl (by omega) h64 (fun p st' s' hp he hf hg => ⟨hg.1, hf, p, hg.2.1, hg.2.2, kat_snds rfl he⟩)
      (sort_ok hc (by omega) fun p hp hs => ⟨rfl, hp, hs⟩)) ?_ fun _ _ e => e)
    rintro ⟨⟨⟩, st'⟩ s' ⟨rfl, hf, p, hp, hs, he⟩
    dsimp only
    refine wpAny_bind (seqEpoch_at h6 rfl ?_)
    refine wpAny_bind (listUpdate_at h6 rfl ?_ (Nat.zero_le _) (by show ((arrOf st').map (·.2)).size ≤ _; rw [he, List.size_toArray, out_len hp]; omega))
    rw [hf]
    simp only [bne_self_eq_false, Bool.false_eq_true, if_false]
    rw [he]
    exact wpAny_pure (h p hp hs)
theorem sorted_any {kd : SortKind} {l : Addr} {vs : List Value} {Q : Value → Shared → Prop} (hl : s.heap.IsList l vs.toArray) (h64 : vs.length < 64)
    (hk : 2 ≤ vs.length → ∀ (E : Value → Shared → Prop) (s₂ : Shared) {R : SortKind → Shared → Prop}, G.KeepsTups s.heap s₂.heap → R kd s₂ → wpAny (model prog w) A.in1.in1 (keyKind' vs.toArray) R E s₂)
    (hc : ∀ s₂ : Shared, G.KeepsTups s.heap s₂.heap → Asks O key vs.length s₂ (kas_ask prog w A.in1.in1 kd vs))
    (h : ∀ p, PR vs.length p → SU O key p vs.length → Q (.ref (s.heap.objs.size + 1)) { s with heap := sortedAll s.heap vs (outOf vs p).toArray }) :
    wpAny (model prog w) A (call (.builtin "sorted") [.ref l]) Q E s := by
  have hz := sizeLine_eq
  refine Calls.call_function_entry kind_sorted plain_sorted entry_sorted (args_sorted1 _) ?_
  unfold Builtin.«sorted»
  refine wpAny_bind (m := checkCount "sorted" 1 1 _) (wpAny_pure (wpAny_bind (collect_list hl (wpAny_bind (wpAny_newList ?_ (by omega))) (by omega))))
  have hn : ((s.heap.push (seqObj "list" #[] 0)).update s.heap.objs.size (Obj.mapSeq (· ++ vs.toArray))).objs.size = s.heap.objs.size + 1 := by rw [Heap.size_update, size_push']
  generalize hh1 : (s.heap.push (seqObj "list" #[] 0)).update s.heap.objs.size (Obj.mapSeq (· ++ vs.toArray)) = h1 at hn ⊢
  have k1 : G.KeepsTups s.heap h1 := by
    rw [← hh1]
    exact (G.KeepsTups.push _ _).trans (G.KeepsTups.update _ (Heap.get?_push_size _ rfl) G.not_tuple_list)
  have hat : (h1.push (seqObj "list" vs.toArray 0)).get? (s.heap.objs.size + 1) = some (seqObj "list" vs.toArray 0) := by rw [← hn]; exact Heap.get?_push_size _ rfl
  have k6 := (k1.trans (G.KeepsTups.push _ (seqObj "list" vs.toArray 0))).trans (G.keeps_sort6 (vs := vs) hat)
  show wpAny _ _ _ _ _ { s with heap := h1.push (seqObj "list" vs.toArray 0) }
  rw [hn]
  refine wpAny_bind (wpAny_holding (wpAny_call_entry slot_list_sort ⟨_, hat, rfl⟩ entry_list_sort (ls_any (O := O) (key := key) (kd := kd) hat h64 (fun h2 R hr => hk h2 _ _ k6 hr) (hc _ k6) fun p hp hs => ⟨_, rfl, wpAny_pure ⟨_, rfl, ?_⟩⟩) (args_list_sort _)))
  have fin := h p hp hs
  unfold sortedAll at fin
  rw [hh1] at fin
  exact fin
end
end L2


set_option Elab.async false
set_option linter.all false
set_option maxRecDepth 100000
set_option maxHeartbeats 1600000
namespace L2
open PySem PySem.W PyProof.Rows
/-! ### what is sorted here, by what the heap says of it -/
theorem isTup_keep {h h' : Heap} {a : Addr} {its : Array Value} (k : G.KeepsTups h h') (p : IsTup h a its) : IsTup h' a its := by
  obtain ⟨o, ho, hc, r⟩ := p
  exact ⟨o, k _ _ ho hc, hc, r⟩
/-- a pair of an int and a row; a row, not empty -/
def PH (h : Heap) (x : Addr) (k : List Int) : Prop := ∃ (n : Int) (t : Tok) (r : Addr) (its : Array Value) (ns : List Int), IsTup h x #[.int n t, .ref r] ∧ IsTup h r its ∧ IntsAre its.toList ns ∧ k = n :: ns
def TH (h : Heap) (x : Addr) (k : List Int) : Prop := ∃ its : Array Value, IsTup h x its ∧ IntsAre its.toList k ∧ k ≠ []
abbrev shp : Nat → Bool := fun _ => false
structure SOrd (RH : Heap → Addr → List Int → Prop) : Prop where
  keep : ∀ {h h' : Heap} {x : Addr} {k : List Int}, G.KeepsTups h h' → RH h x k → RH h' x k
  fst : ∀ {h : Heap} {x : Addr} {k : List Int}, RH h x k → ∃ f, TupOf h shp (.ref x) f
  lt : ∀ {prog : Program} {w : World} {A : Around} {E : Value → Shared → Prop} {s : Shared} {x y : Addr} {k j : List Int} {Q : Bool → Shared → Prop}, A.units < cLine → RH s.heap x k → RH s.heap y j → Q (iOrd.blt k j) s →
    wpAny (model prog w) A (keyLt' (tuples' true) (.ref x) (.ref y)) Q E s
theorem sord_P : SOrd PH where
  keep := fun k ⟨n, t, r, its, ns, p, q, i, e⟩ => ⟨n, t, r, its, ns, isTup_keep k p, isTup_keep k q, i, e⟩
  fst := fun ⟨n, t, r, its, ns, ⟨o, ho, hc, m, hd⟩, q, i, e⟩ => ⟨.int n t, _, o, _, m, rfl, ho, hc, hd, rfl, fun _ => ⟨n, t, rfl⟩, fun z => nomatch z⟩
  lt := fun hu ⟨n, t, r, its, ns, p, q, i, e⟩ ⟨n', t', r', its', ns', p', q', i', e'⟩ h => by
    subst e e'
    exact lt_pairs hu p p' q q' i i' h
theorem sord_T : SOrd TH where
  keep := fun k ⟨its, p, i, e⟩ => ⟨its, isTup_keep k p, i, e⟩
  fst := fun {h x k} ⟨its, ⟨o, ho, hc, m, hd⟩, i, e⟩ => by
    obtain ⟨l⟩ := its
    cases i with
    | nil => exact absurd rfl e
    | cons n t r => exact ⟨.int n t, _, o, _, m, rfl, ho, hc, hd, rfl, fun _ => ⟨n, t, rfl⟩, fun z => nomatch z⟩
  lt := fun hu ⟨its, p, i, e⟩ ⟨its', p', i', e'⟩ h => lt_rows p p' i i' h
section
variable {prog : Program} {w : World} {A : Around} {E : Value → Shared → Prop} {s : Shared} {RH : Heap → Addr → List Int → Prop} {key : Nat → List Int} {vs : List Value}
theorem tups_of {h : Heap} : ∀ {vs : List Value}, (∀ v ∈ vs, ∃ f, TupOf h shp v f) → ∃ fs, TupsOf h shp vs fs
  | [], _ => ⟨[], .nil⟩
  | v :: vs, k => by
    obtain ⟨f, hf⟩ := k v (.head _)
    obtain ⟨fs, hfs⟩ := tups_of (vs := vs) fun u hu => k u (.tail _ hu)
    exact ⟨f :: fs, .cons hf hfs⟩
theorem kind_of (o : SOrd RH) {M : Model} {R : SortKind → Shared → Prop} (h2 : 0 < vs.length) (hk : ∀ i, i < vs.length → ∃ x, vs[i]? = some (.ref x) ∧ RH s.heap x (key i)) (h : R (tuples' true) s) : wpAny M A (keyKind' vs.toArray) R E s := by
  obtain ⟨fs, hf⟩ := tups_of (h := s.heap) (vs := vs) fun v hv => by
    obtain ⟨i, hi, rfl⟩ := List.getElem_of_mem hv
    obtain ⟨x, e, r⟩ := hk i hi
    rw [List.getElem?_eq_getElem hi] at e
    rw [Option.some.inj e]
    exact o.fst r
  exact tup_kind (by rw [G.TupsOf.length hf]; exact h2) hf h
theorem asks_of (o : SOrd RH) (hu : A.units < cLine) (hk : ∀ i, i < vs.length → ∃ x, vs[i]? = some (.ref x) ∧ RH s.heap x (key i)) : Asks iOrd key vs.length s (kas_ask prog w A (tuples' true) vs) := by
  intro i j C hi hj h
  obtain ⟨x, e, r⟩ := hk i hi
  obtain ⟨y, e', r'⟩ := hk j hj
  show wpAny (model prog w) A (keyLt' (tuples' true) (vs.getD i Value.none) (vs.getD j Value.none)) C _ s
  rw [List.getD_eq_getElem?_getD, List.getD_eq_getElem?_getD, e, e']
  exact o.lt hu r r' h
/-- sorted(l), by what the heap says of its items -/
theorem sorted_by (o : SOrd RH) {l : Addr} {Q : Value → Shared → Prop} (hu : A.units + 2 < cLine) (hl : s.heap.IsList l vs.toArray) (h64 : vs.length < 64) (hk : ∀ i, i < vs.length → ∃ x, vs[i]? = some (.ref x) ∧ RH s.heap x (key i))
    (h : ∀ p, PR vs.length p → SU iOrd key p vs.length → Q (.ref (s.heap.objs.size + 1)) { s with heap := sortedAll s.heap vs (outOf vs p).toArray }) : wpAny (model prog w) A (call (.builtin "sorted") [.ref l]) Q E s := by
  have kp : ∀ {s₂ : Shared}, G.KeepsTups s.heap s₂.heap → ∀ i, i < vs.length → ∃ x, vs[i]? = some (.ref x) ∧ RH s₂.heap x (key i) := fun k i hi => by
    obtain ⟨x, e, r⟩ := hk i hi
    exact ⟨x, e, o.keep k r⟩
  exact sorted_any (kd := tuples' true) hl h64 (fun h2 E s₂ R k hr => kind_of o (key := key) (by omega) (kp k) hr) (fun s₂ k => asks_of o (show A.in1.in1.units < cLine from hu) (kp k)) h
end
/-! ### what comes of it -/
section
variable {as : List V} {p : Array Nat} {κ : V → List Int}
def outV (as : List V) (p : Array Nat) : List V := p.toList.map fun i => as.getD i .non
theorem outV_len (h : PR as.length p) : (outV as p).length = as.length := by
  unfold outV
  rw [List.length_map, Array.length_toList, h.size]
theorem outV_perm (h : PR as.length p) : (outV as p).Perm as := by
  have h1 : p.toList.Perm (List.range as.length) := by
    have := Array.perm_iff_toList_perm.mp h
    rwa [List.toList_toArray] at this
  have h2 : (List.range as.length).map (fun i => as.getD i .non) = as := List.ext_getElem (by simp) fun i h1 h2 => by simp [List.getElem?_eq_getElem h2]
  have h3 := h1.map fun i => as.getD i V.non
  rw [h2] at h3
  exact h3
theorem outV_vals {vs : List Value} (r : Vals as vs) (h : PR as.length p) : Vals (outV as p) (outOf vs p) := by
  have hm : ∀ i ∈ p.toList, i < as.length := fun i hi => by
    have := (Array.perm_iff_toList_perm.mp h).mem_iff.mp hi
    simpa using this
  unfold outV outOf
  generalize p.toList = l at hm ⊢
  induction l with
  | nil => exact .nil
  | cons i l ih =>
    have hi := hm i (.head _)
    obtain ⟨u, e, ru⟩ := r.get (List.getElem?_eq_getElem hi)
    refine .cons ?_ (ih fun j hj => hm j (.tail _ hj))
    show RelV (as.getD i .non) (vs.getD i .none)
    rw [List.getD_eq_getElem?_getD, List.getD_eq_getElem?_getD, e, List.getElem?_eq_getElem hi]
    exact ru
theorem outV_sorted (h : PR as.length p) (hs : SU iOrd (fun i => κ (as.getD i .non)) p as.length) : (outV as p).Pairwise fun a b => iOrd.kle (κ a) (κ b) := by
  rw [List.pairwise_iff_getElem]
  intro i j hi hj hij
  have hl := outV_len h
  have e : ∀ (k : Nat) (hk : k < (outV as p).length), κ ((outV as p)[k]) = gk iOrd (fun i => κ (as.getD i .non)) p k := fun k hk => by
    have hk' : k < p.size := by rw [h.size]; omega
    have e1 : (outV as p)[k]? = some (as.getD (p.getD k 0) .non) := by
      unfold outV
      rw [List.getElem?_map]
      simp [Array.getD, hk']
    rw [List.getElem?_eq_getElem hk] at e1
    rw [Option.some.inj e1]
    rfl
  rw [e, e]
  exact hs i j (by omega) (by omega)
end
/-! ### as calls -/
section
variable {X : Cx}
def KPr (K : PySem.W.Frag) (H : Hp) (v : V) (k : List Int) : Prop := ∃ (x r : Addr) (n : Int) (ns : List Int), v = .ref x ∧ SqT K H x [.int n, .ref r] ∧ SqT K H r (ns.map V.int) ∧ k = n :: ns
def KRw (K : PySem.W.Frag) (H : Hp) (v : V) (k : List Int) : Prop := ∃ x : Addr, v = .ref x ∧ SqT K H x (k.map V.int) ∧ k ≠ []
theorem KPr.at {pins : List (Addr × Obj)} {σ : St} {H : Hp} {s : Shared} {v : V} {k : List Int} (I : Inv X pins σ H s) (h : KPr X.K H v k) : ∃ x, v = .ref x ∧ PH s.heap x k := by
  obtain ⟨x, r, n, ns, rfl, hx, hr, rfl⟩ := h
  obtain ⟨its, rv, p, _⟩ := I.tuple hx
  obtain ⟨its2, rv2, p2, _⟩ := I.tuple hr
  cases rv with
  | cons r1 t1 =>
    cases t1 with
    | cons r2 t2 =>
      cases t2
      obtain ⟨t, rfl⟩ := r1
      cases r2
      exact ⟨x, rfl, n, t, r, _, ns, p, p2, intsAre_of rv2, rfl⟩
theorem KRw.at {pins : List (Addr × Obj)} {σ : St} {H : Hp} {s : Shared} {v : V} {k : List Int} (I : Inv X pins σ H s) (h : KRw X.K H v k) : ∃ x, v = .ref x ∧ TH s.heap x k := by
  obtain ⟨x, rfl, hx, hk⟩ := h
  obtain ⟨its, rv, p, _⟩ := I.tuple hx
  exact ⟨x, rfl, _, p, intsAre_of rv, hk⟩
def rSrt (R : V → List Int → Hp → Prop) (K : PySem.W.Frag) : List V → Hp → VK → Prop := fun vs H Q => ∃ (l : Addr) (as : List V) (κ : V → List Int), vs = [V.ref l] ∧ SqL K H l as ∧ as.length < 64 ∧ (∀ a ∈ as, R a (κ a) H) ∧
  ∀ (bs : List V) (p : Addr), bs.Perm as → bs.Pairwise (fun a b => iOrd.kle (κ a) (κ b)) → H p = none → Q (.ref p) (upd H p (.lst bs))
theorem cr_srt {R : V → List Int → Hp → Prop} {RH : Heap → Addr → List Int → Prop} (o : SOrd RH) (hu : X.A.units + 2 < cLine)
    (at_ : ∀ {pins : List (Addr × Obj)} {σ : St} {H : Hp} {s : Shared} {v : V} {k : List Int}, Inv X pins σ H s → R v k H → ∃ x, v = .ref x ∧ RH s.heap x k) : CallR X (.builtin "sorted") (rSrt R X.K) := by
  intro pins s σ H vs us Q I r h
  obtain ⟨l, as, κ, rfl, hs, h64, hk, q⟩ := h
  obtain ⟨its, rv, hl, _⟩ := I.list hs
  rw [Vals.ref1 r]
  have hlen := rv.length
  refine sorted_by o (key := fun i => κ (as.getD i .non)) hu hl.isList (by rw [← hlen]; exact h64) (fun i hi => ?_) fun p hp hsu => ?_
  · rw [← hlen] at hi
    obtain ⟨u, e, ru⟩ := rv.get (List.getElem?_eq_getElem hi)
    obtain ⟨x, ex, rh⟩ := at_ I (hk _ (List.getElem_mem hi))
    rw [ex] at ru
    cases ru
    refine ⟨x, e, ?_⟩
    rw [List.getD_eq_getElem?_getD, List.getElem?_eq_getElem hi]
    exact rh
  · rw [← hlen] at hp hsu
    obtain ⟨ep, he⟩ := sortedAll_at s.heap its (outOf its p).toArray
    have hz : (outV as p).length ≤ sizeLine := by rw [outV_len hp]; exact small64 h64
    exact ⟨.ref _, upd H (s.heap.objs.size + 1) (.lst (outV as p)), I.laid (t' := s.toks) (fun _ _ => sortedAll_old) (Nat.le_succ _) ⟨hz, outOf its p, ep, outV_vals rv hp, he⟩, rfl,
      q _ _ (outV_perm hp) (outV_sorted hp hsu) (I.hok.fresh (Nat.le_succ _))⟩
theorem cr_srtP (hu : X.A.units + 2 < cLine) : CallR X (.builtin "sorted") (rSrt (fun v k H => KPr X.K H v k) X.K) := cr_srt sord_P hu KPr.at
end
end L2


set_option Elab.async false
set_option linter.all false
set_option maxRecDepth 100000
set_option maxHeartbeats 3200000
namespace L2
open PySem PySem.W PyProof.Rows
/-! ### sorted(l, key=f), f a def of one's own that tells of a row its length and itself -/
def spKy : Sp := fun vs H Q _ => ∃ (r : Addr) (ns : List Int), vs = [.ref r] ∧ H r = some (.tup (ns.map V.int)) ∧ ∀ x, H x = none → Q (.ref x) (upd H x (.tup [.int ns.length, .ref r]))
def KyP (H H' : Hp) (kx a : V) : Prop := ∃ (x r : Addr) (ns : List Int), kx = .ref x ∧ a = .ref r ∧ H' x = some (.tup [.int ns.length, .ref r]) ∧ H r = some (.tup (ns.map V.int))
structure KyI (H H' : Hp) (D kS : Addr) (od : Obj) (dn ks : List V) : Prop where
  same : Same H H'
  d : H' D = some (.frz od (.lst []))
  k : H' kS = some (.lst ks)
  p : Paired (KyP H H') ks dn
  nk : H kS = none
theorem Paired.snoc {α β : Type} {F : α → β → Prop} {a : α} {b : β} (h : F a b) : ∀ {l₁ : List α} {l₂ : List β}, Paired F l₁ l₂ → Paired F (l₁ ++ [a]) (l₂ ++ [b])
  | _, _, .nil => .cons h .nil
  | _, _, .cons r t => .cons r (Paired.snoc h t)
theorem Paired.at {α β : Type} {F : α → β → Prop} : ∀ {l₁ : List α} {l₂ : List β} {i : Nat} {a : α} {b : β}, Paired F l₁ l₂ → l₁[i]? = some a → l₂[i]? = some b → F a b
  | _, _, _, _, _, .nil, h, _ => by simp at h
  | _, _, 0, _, _, .cons r _, h, g => by
    simp at h g
    subst h g
    exact r
  | _, _, i + 1, _, _, .cons _ t, h, g => Paired.at (i := i) t (by simpa using h) (by simpa using g)
section
variable {X : Cx} {pins : List (Addr × Obj)} {σ : St} {k : Nat} {f : Addr} {fd : FuncData} {x0 : Str} {E : Value → Shared → Prop}
/-- one turn: the key is made and laid by -/
theorem ky_step {H H' : Hp} {s : Shared} {D kS : Addr} {od : Obj} {dn ks : List V} {r : Addr} {ns : List Int} {R : Value → Shared → Prop} (F : FnOk X.prog X.w X.K X.mg X.base CX0 k f fd [x0] spKy) (hr : Room (k + 2) X.A) (hb : Binds X.K fd [x0] [])
    (I : Inv X pins σ H' s) (ki : KyI H H' D kS od dn ks) (ha : H r = some (.tup (ns.map V.int))) (hz : ks.length < 64) (hDk : D ≠ kS)
    (h : ∀ u s1, wpAny (model X.prog X.w) X.A.in1.in1 (Builtin.List.listUpdate (.ref kS) (·.push u)) (fun _ s2 => ∃ H2 x, Inv X pins σ H2 s2 ∧ KyI H H2 D kS od (dn ++ [.ref r]) (ks ++ [x])) E s1 → R u s1) :
    wpAny (model X.prog X.w) X.A.in1.in1 (call (.ref f) [.ref r]) R (fun _ _ => False) s := by
  have hr2 : Room k X.A.in1.in1 := (Room.in1 (Room.in1 hr))
  refine wpAny_call (codeAny_mono (F.run X.A.in1.in1 X.stack s H' ⟨[.ref r], []⟩ [.ref r] [.ref r] (fun v H2 => ∃ x, v = .ref x ∧ H' x = none ∧ H2 = upd H' x (.tup [.int ns.length, .ref r])) E0 hr2 I.env0.in1.in1 (hb s [.ref r] I.kIn rfl) (.cons rfl .nil)
    ⟨r, ns, rfl, ki.same _ _ ha, fun x hx => ⟨x, rfl, hx, rfl⟩⟩) fun q s' hq => ?_)
  cases q with
  | error e => exact hq.elim
  | ok fl =>
    cases fl with
    | ret u =>
      obtain ⟨v, H2, I2, rv, x, rfl, hx, rfl⟩ := I.after hq
      cases rv
      have hk2 : (upd H' x (.tup [.int ns.length, .ref r])) kS = some (.lst ks) := by rw [upd_ne (ne_of_none ki.k hx)]; exact ki.k
      obtain ⟨_, its, n, ri, e⟩ := I2.hok kS _ hk2
      have hl := ri.length
      have hzl := sizeLine_eq
      have sb := Heap.SameBut.update s'.heap kS (Obj.mapSeq (·.push (Value.ref x)))
      obtain ⟨c2, hc2⟩ : ∃ c2, (s'.heap.update kS (Obj.mapSeq (·.push (Value.ref x)))).get? kS = some (seqObj "list" (its ++ [Value.ref x]).toArray c2) := ⟨_, by rw [← List.push_toArray]; exact get?_update_seq (n := n) e (·.push (Value.ref x))⟩
      refine h (.ref x) s' (listUpdate_at e rfl ⟨upd (upd H' x (.tup [.int ns.length, .ref r])) kS (.lst (ks ++ [.ref x])), .ref x, ?_, ?_⟩ (by rw [List.size_toArray]; omega) (by rw [List.push_toArray, List.size_toArray, List.length_append]; simp; omega))
      · exact I2.write (x := kS) (e := kS) (t' := s'.toks) (by rw [hk2]; trivial) (.inl rfl) (fun b u hb q => (sb.2 b hb).trans q) ⟨_, hc2⟩ ⟨by rw [List.length_append]; simp; omega, its ++ [Value.ref x], c2, ri.append (.cons (show RelV (.ref x) (Value.ref x) from rfl) .nil), hc2⟩
      · have S1 : Same H' (upd H' x (.tup [.int ns.length, .ref r])) := same_new hx
        have nk : ∀ b o, H' b = some o → b ≠ kS → (upd (upd H' x (.tup [.int ns.length, .ref r])) kS (.lst (ks ++ [.ref x]))) b = some o := fun b o q nb => by rw [upd_ne nb]; exact S1 _ _ q
        have hxk : x ≠ kS := (ne_of_none ki.k hx).symm
        have tk : ∀ b xs, H' b = some (.tup xs) → b ≠ kS := fun b xs q z => by rw [z, ki.k] at q; cases q
        exact ⟨fun b o q => nk _ _ (ki.same _ _ q) (ne_of_none q ki.nk), nk _ _ ki.d hDk, upd_same, Paired.snoc ⟨x, r, ns, rfl, rfl, by rw [upd_ne hxk, upd_same], ha⟩ (Paired.mapP ki.p fun a b ⟨y, r', ns', e1, e2, e3, e4⟩ => ⟨y, r', ns', e1, e2, nk _ _ e3 (tk _ _ e3), e4⟩), ki.nk⟩
    | next => exact False.elim hq
    | brk => exact False.elim hq
    | cont => exact False.elim hq
theorem ky_loop {H : Hp} {D kS : Addr} {od : Obj} {body : Value → PUnit → Sem (ForInStep PUnit)} (F : FnOk X.prog X.w X.K X.mg X.base CX0 k f fd [x0] spKy) (hr : Room (k + 2) X.A) (hb : Binds X.K fd [x0] []) (hDk : D ≠ kS)
    (hbody : ∀ (x : Value) (s : Shared) (C : Shared → Prop), wpAny (model X.prog X.w) X.A.in1.in1 (call (.ref f) [x]) (fun u s1 => wpAny (model X.prog X.w) X.A.in1.in1 (Builtin.List.listUpdate (.ref kS) (·.push u)) (fun _ s2 => C s2) E s1) (fun _ _ => False) s →
      wpAny (model X.prog X.w) X.A.in1.in1 (body x ⟨⟩) (fun r s' => r = .yield ⟨⟩ ∧ C s') E s) :
    ∀ (rs : List V) (vs : List Value) (dn ks : List V) (H' : Hp) (s : Shared), Vals rs vs → Inv X pins σ H' s → KyI H H' D kS od dn ks → (∀ a ∈ rs, ∃ (r : Addr) (ns : List Int), a = .ref r ∧ H r = some (.tup (ns.map V.int))) → ks.length + rs.length < 64 →
      wpAny (model X.prog X.w) X.A.in1.in1 (forIn vs PUnit.unit body) (fun _ s' => ∃ H2 ks2, Inv X pins σ H2 s' ∧ KyI H H2 D kS od (dn ++ rs) ks2) E s
  | _, _, dn, ks, H', s, .nil, I, ki, _, _ => by
    rw [List.forIn_nil]
    exact wpAny_pure ⟨H', ks, I, by rw [List.append_nil]; exact ki⟩
  | a :: rs, v :: vs, dn, ks, H', s, .cons ra rr, I, ki, hk, hz => by
    rw [List.length_cons] at hz
    rw [List.forIn_cons]
    obtain ⟨r, ns, rfl, hr0⟩ := hk a (.head _)
    cases ra
    refine wpAny_bind (wpAny_mono (hbody _ s (fun s2 => ∃ H2 x, Inv X pins σ H2 s2 ∧ KyI H H2 D kS od (dn ++ [.ref r]) (ks ++ [x])) (ky_step F hr hb I ki hr0 (by omega) hDk fun u s1 q => q)) (fun q s' hq => ?_) fun _ _ z => z)
    obtain ⟨rfl, H2, x, I2, ki2⟩ := hq
    show wpAny (model X.prog X.w) X.A.in1.in1 (forIn vs PUnit.unit body) _ E s'
    have t := ky_loop F hr hb hDk hbody rs vs (dn ++ [.ref r]) (ks ++ [x]) H2 s' rr I2 ki2 (fun b hb => hk b (.tail _ hb)) (by rw [List.length_append]; simp; omega)
    rw [List.append_assoc] at t
    exact t
theorem Paired.len {α β : Type} {F : α → β → Prop} : ∀ {l₁ : List α} {l₂ : List β}, Paired F l₁ l₂ → l₁.length = l₂.length
  | _, _, .nil => rfl
  | _, _, .cons _ t => by rw [List.length_cons, List.length_cons, Paired.len t]
theorem ky_end {H H' : Hp} {s : Shared} {D kS : Addr} {e1 : Nat} {as ks : List V} {its : List Value} {kits : List Value} {κ : V → List Int} {P : PySem.Fin → Shared → Prop} (hu : X.A.units + 2 < cLine) (hDk : D ≠ kS) (hD : H D = none) (hn : ∀ o' u', X.H_0 D ≠ some (.frz o' u'))
    (I : Inv X pins σ H' s) (ki : KyI H H' D kS (seqObj "list" #[] e1) as ks) (rv : Vals as its) (kv : Vals ks kits) (h64 : as.length < 64)
    (hκ : ∀ (r : Addr) (ns : List Int), V.ref r ∈ as → H r = some (.tup (ns.map V.int)) → κ (.ref r) = (ns.length : Int) :: ns)
    (h : ∀ bs s3 H3, bs.Perm as → bs.Pairwise (fun a b => iOrd.kle (κ a) (κ b)) → Inv X pins σ H3 s3 → Same H H3 → H3 D = some (.lst bs) → P (.done (.ret .none)) s3) :
    wpAny (model X.prog X.w) X.A.in1.in1 (ksk_end D false its.toArray e1 (.ref kS) kits.toArray) P E s := by
  have hzl := sizeLine_eq
  have lk : ks.length = as.length := Paired.len ki.p
  have l1 := rv.length
  have l2 := kv.length
  have hsz : its.toArray.size = its.length := List.size_toArray ..
  obtain ⟨hDo, _⟩ := I.hok D _ ki.d
  -- the tail
  have tail : ∀ (st : SortSt) (p : Array Nat), PR as.length p → SU iOrd (fun i => κ (as.getD i .non)) p as.length → failedOf st = none → (arrOf st).map (·.2) = (outOf its p).toArray →
      wpAny (model X.prog X.w) X.A.in1.in1 (ksk_tail D false e1 (.ref kS) st) P E s := by
    intro st p hp hs hf he
    have ol : (outOf its p).length = as.length := by rw [← (outV_vals rv hp).length, outV_len hp]
    obtain ⟨_, its2, n2, ri2, ek⟩ := I.hok kS _ ki.k
    have s1 := Heap.SameBut.update s.heap kS (Obj.mapSeq fun _ => (#[] : Array Value))
    obtain ⟨c1, hc1⟩ : ∃ c1, (s.heap.update kS (Obj.mapSeq fun _ => (#[] : Array Value))).get? kS = some (seqObj "list" #[] c1) := ⟨_, get?_update_seq (n := n2) ek fun _ => #[]⟩
    have I1 : Inv X pins σ (upd H' kS (.lst [])) { s with heap := s.heap.update kS (Obj.mapSeq fun _ => (#[] : Array Value)) } :=
      I.write (x := kS) (e := kS) (t' := s.toks) (by rw [ki.k]; trivial) (.inl rfl) (fun b u hb q => (s1.2 b hb).trans q) ⟨_, hc1⟩ ⟨Nat.zero_le _, [], c1, .nil, hc1⟩
    have hd1 : (upd H' kS (.lst [])) D = some (.frz (seqObj "list" #[] e1) (.lst [])) := by rw [upd_ne hDk]; exact ki.d
    have I2 := I1.unlock hd1 hn
    obtain ⟨hDo1, _⟩ := I1.hok D _ hd1
    have s2 := Heap.SameBut.update (s.heap.update kS (Obj.mapSeq fun _ => (#[] : Array Value))) D (Obj.mapSeq fun _ => (outOf its p).toArray)
    obtain ⟨c2, hc2⟩ : ∃ c2, ((s.heap.update kS (Obj.mapSeq fun _ => (#[] : Array Value))).update D (Obj.mapSeq fun _ => (outOf its p).toArray)).get? D = some (seqObj "list" (outOf its p).toArray c2) := ⟨_, get?_update_seq hDo1 fun _ => (outOf its p).toArray⟩
    have I3 : Inv X pins σ (upd (upd (upd H' kS (.lst [])) D (.lst [])) D (.lst (outV as p))) { s with heap := (s.heap.update kS (Obj.mapSeq fun _ => (#[] : Array Value))).update D (Obj.mapSeq fun _ => (outOf its p).toArray) } :=
      I2.write (x := D) (e := D) (t' := s.toks) (by rw [upd_same]; trivial) (.inl rfl) (fun b u hb q => (s2.2 b hb).trans q) ⟨_, hc2⟩ ⟨by rw [outV_len hp]; omega, _, c2, outV_vals rv hp, hc2⟩
    unfold ksk_tail
    try dsimp only
    rw [he]
    simp only [Bool.false_eq_true, if_false]
    refine wpAny_bind (listUpdate_at ek rfl ?_ (by rw [List.size_toArray]; have := ri2.length; omega) (Nat.zero_le _))
    refine wpAny_bind (wpAny_letGo ?_)
    refine wpAny_bind (seqEpoch_at hDo1 rfl ?_)
    refine wpAny_bind (listUpdate_at hDo1 rfl ?_ (Nat.zero_le _) (by rw [List.size_toArray]; omega))
    rw [hf]
    simp only [bne_self_eq_false, Bool.false_eq_true, if_false]
    refine wpAny_pure (h (outV as p) _ _ (outV_perm hp) (outV_sorted hp hs) I3 (fun b o q => ?_) upd_same)
    have nb : b ≠ D := ne_of_none q hD
    rw [upd_ne nb, upd_ne nb, upd_ne (ne_of_none q ki.nk)]
    exact ki.same _ _ q
  unfold ksk_end
  try dsimp only
  simp only [Bool.false_eq_true, if_false]
  by_cases h2 : its.toArray.size < 2
  · rw [if_pos h2, if_pos h2]
    refine wpAny_bind (wpAny_pure ?_)
    rw [StateT.run_pure]
    refine wpAny_bind (wpAny_pure ?_)
    try dsimp only
    refine tail _ (List.toArray (List.range as.length)) (Array.Perm.refl _) (range_SU (by omega)) rfl ?_
    rw [l1, out_range]
    show (kits.toArray.zip its.toArray).map (·.2) = its.toArray
    apply Array.ext (by simp; omega)
    intro i h1 h2
    simp
  · rw [if_neg h2, if_neg h2]
    have hk : ∀ i, i < kits.length → ∃ x, kits[i]? = some (.ref x) ∧ PH s.heap x (κ (as.getD i .non)) := fun i hi => by
      have hi2 : i < ks.length := by omega
      have hi3 : i < as.length := by omega
      obtain ⟨x, r, ns, ex, er, hx, hr0⟩ := Paired.at ki.p (List.getElem?_eq_getElem hi2) (List.getElem?_eq_getElem hi3)
      obtain ⟨u, eu, ru⟩ := kv.get (List.getElem?_eq_getElem hi2)
      rw [ex] at ru
      cases ru
      have hm : V.ref r ∈ as := by rw [← er]; exact List.getElem_mem hi3
      have ek : κ (as.getD i .non) = (ns.length : Int) :: ns := by
        rw [List.getD_eq_getElem?_getD, List.getElem?_eq_getElem hi3, er]
        exact hκ r ns hm hr0
      obtain ⟨y, ey, ph⟩ := KPr.at I (k := κ (as.getD i .non)) (v := .ref x) ⟨x, r, _, ns, rfl, SqT.of hx, SqT.of (ki.same _ _ hr0), ek⟩
      cases ey
      exact ⟨x, eu, ph⟩
    refine wpAny_bind (kind_of sord_P (key := fun i => κ (as.getD i .non)) (by omega) hk ?_)
    try dsimp only
    refine wpAny_bind (wpAny_mono (kat_run (ks := kits) (vs := its) (κ := tuples' true) (s := s) (Q := fun st' s' => s' = s ∧ failedOf st' = none ∧ ∃ p, PR as.length p ∧ SU iOrd (fun i => κ (as.getD i .non)) p as.length ∧ (arrOf st').map (·.2) = (outOf its p).toArray)
      (G := fun p s' => s' = s ∧ PR its.length p ∧ SU iOrd (fun i => κ (as.getD i .non)) p its.length) (by omega) (by omega) (by omega) (fun p st' s' hp he hf hg => ⟨hg.1, hf, p, by rw [l1]; exact hg.2.1, by rw [l1]; exact hg.2.2, kat_snds (by omega) he⟩)
      (sort_ok (by
        have a := asks_of (prog := X.prog) (w := X.w) (A := X.A.in1.in1) sord_P hu hk
        rw [show kits.length = its.length by omega] at a
        exact a) (by omega) fun p hp hs => ⟨rfl, hp, hs⟩)) ?_ fun _ _ e => e)
    rintro ⟨⟨⟩, st'⟩ s' ⟨rfl, hf, p, hp, hs, he⟩
    try dsimp only
    exact tail st' p hp hs hf he
end
end L2


set_option Elab.async false
set_option linter.all false
set_option maxRecDepth 100000
set_option maxHeartbeats 3200000
namespace L2
open PySem PySem.W PyProof.Rows
section
variable {X : Cx} {k : Nat} {f : Addr} {fd : FuncData} {x0 : Str}
/-- what sorted(l, key=f) asks and gives -/
def rSrtK (K : PySem.W.Frag) (f : Addr) : V → V → Hp → VK → Prop := fun y g H Q => ∃ (l : Addr) (as : List V) (κ : V → List Int), y = .ref l ∧ g = .ref f ∧ SqL K H l as ∧ as.length < 64 ∧ (∀ a ∈ as, ∃ (r : Addr) (ns : List Int), a = .ref r ∧ H r = some (.tup (ns.map V.int))) ∧
  (∀ (r : Addr) (ns : List Int), V.ref r ∈ as → H r = some (.tup (ns.map V.int)) → κ (.ref r) = (ns.length : Int) :: ns) ∧
  ∀ (bs : List V) (p : Addr) (H' : Hp), bs.Perm as → bs.Pairwise (fun a b => iOrd.kle (κ a) (κ b)) → H p = none → Same H H' → H' p = some (.lst bs) → Q (.ref p) H'
theorem call_srtK {pins : List (Addr × Obj)} {σ : St} {H : Hp} {s : Shared} {Q : VK} {y g : V} {u v : Value} (F : FnOk X.prog X.w X.K X.mg X.base CX0 k f fd [x0] spKy) (hr : Room (k + 2) X.A) (hb : Binds X.K fd [x0] [])
    (I : Inv X pins σ H s) (ry : RelV y u) (rg : RelV g v) (h : rSrtK X.K f y g H Q) : wpAny (model X.prog X.w) X.A (call (.builtin "sorted") [u] [(Str.ofString "key", v)]) (EP X pins σ Q) X.xe s := by
  obtain ⟨l, as, κ, rfl, rfl, hs, h64, hk, hκ, q⟩ := h
  cases ry
  cases rg
  have hz := sizeLine_eq
  have hun : X.A.units + 2 < cLine := by have := hr.units; omega
  obtain ⟨its, rv, hl, _⟩ := I.list hs
  have hlen := rv.length
  refine call_function_entry_kw kind_sorted plain_sorted entry_sorted (ksk_s1 _ _) ?_
  unfold Builtin.«sorted»
  refine wpAny_bind (m := checkCount "sorted" 1 1 _) (wpAny_pure (wpAny_bind (collect_list hl.isList (wpAny_bind (wpAny_newList ?_ (by omega))) (by omega))))
  have hn : ((s.heap.push (seqObj "list" #[] 0)).update s.heap.objs.size (Obj.mapSeq (· ++ its.toArray))).objs.size = s.heap.objs.size + 1 := by rw [Heap.size_update, size_push']
  have kp1 : ∀ b o, s.heap.get? b = some o → ((s.heap.push (seqObj "list" #[] 0)).update s.heap.objs.size (Obj.mapSeq (· ++ its.toArray))).get? b = some o := fun b o e => by
    rw [Heap.get?_update_ne _ _ _ _ (Nat.ne_of_lt (Heap.lt_size e))]
    exact Heap.get?_push_of_some _ e
  generalize (s.heap.push (seqObj "list" #[] 0)).update s.heap.objs.size (Obj.mapSeq (· ++ its.toArray)) = h1 at hn kp1 ⊢
  have hat : (h1.push (seqObj "list" its.toArray 0)).get? (s.heap.objs.size + 1) = some (seqObj "list" its.toArray 0) := by rw [← hn]; exact Heap.get?_push_size _ rfl
  show wpAny _ _ _ _ _ { s with heap := h1.push (seqObj "list" its.toArray 0) }
  rw [hn]
  refine wpAny_bind (wpAny_holding (wpAny_call_entry_kw slot_list_sort ⟨_, hat, rfl⟩ entry_list_sort ?_ (ksk_l1 _ _)))
  show wpAny (model X.prog X.w) X.A.in1.in1 (Builtin.«list.sort» ⟨[.ref (s.heap.objs.size + 1)], [(Str.ofString "key", .ref f)]⟩) _ _ _
  rw [ksk_t1]
  unfold ksk_tree
  refine wpAny_bind (listItems_at hat rfl (wpAny_bind (listUpdate_at hat rfl ?_ (by rw [List.size_toArray]; omega) (Nat.zero_le _))))
  have kp2 : ∀ b o, s.heap.get? b = some o → ((h1.push (seqObj "list" its.toArray 0)).update (s.heap.objs.size + 1) (Obj.mapSeq fun _ => #[])).get? b = some o := fun b o e => by
    rw [Heap.get?_update_ne _ _ _ _ (Nat.ne_of_lt (Nat.lt_succ_of_lt (Heap.lt_size e)))]
    exact Heap.get?_push_of_some _ (kp1 b o e)
  obtain ⟨e1, he1⟩ : ∃ e1, ((h1.push (seqObj "list" its.toArray 0)).update (s.heap.objs.size + 1) (Obj.mapSeq fun _ => #[])).get? (s.heap.objs.size + 1) = some (seqObj "list" #[] e1) := ⟨_, get?_update_seq hat (fun _ => #[])⟩
  generalize (h1.push (seqObj "list" its.toArray 0)).update (s.heap.objs.size + 1) (Obj.mapSeq fun _ => #[]) = h2 at kp2 he1 ⊢
  refine wpAny_bind (seqEpoch_at he1 rfl (wpAny_bind (wpAny_newTuple ?_ (by show its.length ≤ _; omega))))
  have kp3 : ∀ b o, s.heap.get? b = some o → (h2.push (seqObj "tuple" its.toArray 0)).get? b = some o := fun b o e => Heap.get?_push_of_some _ (kp2 b o e)
  have he3 : (h2.push (seqObj "tuple" its.toArray 0)).get? (s.heap.objs.size + 1) = some (seqObj "list" #[] e1) := Heap.get?_push_of_some _ he1
  show wpAny _ _ _ _ _ { s with heap := h2.push (seqObj "tuple" its.toArray 0) }
  generalize h2.push (seqObj "tuple" its.toArray 0) = h3 at kp3 he3 ⊢
  have hD : H (s.heap.objs.size + 1) = none := I.hok.fresh (Nat.le_succ _)
  have hnf : ∀ o' u', X.H_0 (s.heap.objs.size + 1) ≠ some (.frz o' u') := fun o' u' e => by
    have z := I.base.frzs _ o' u' e
    rw [hD] at z
    cases z
  have I3 : Inv X pins σ (upd H (s.heap.objs.size + 1) (.frz (seqObj "list" #[] e1) (.lst []))) { s with heap := h3 } :=
    I.laid (t' := s.toks) kp3 (Nat.le_succ _) ⟨he3, Nat.zero_le _, [], e1, .nil, he3⟩
  generalize hDd : s.heap.objs.size + 1 = D at *
  refine wpAny_bind (wpAny_newList ?_ (Nat.zero_le _))
  refine wpAny_holding ?_
  show wpAny _ _ _ _ _ { s with heap := h3.push (seqObj "list" #[] 0) }
  have hk3 : (upd H D (.frz (seqObj "list" #[] e1) (.lst []))) h3.objs.size = none := I3.hok.fresh (Nat.le_refl _)
  have I4 : Inv X pins σ (upd (upd H D (.frz (seqObj "list" #[] e1) (.lst []))) h3.objs.size (.lst [])) { s with heap := h3.push (seqObj "list" #[] 0) } :=
    I3.laid (t' := s.toks) (fun b o e => Heap.get?_push_of_some _ e) (Nat.le_refl _) ⟨Nat.zero_le _, [], 0, .nil, Heap.get?_push_size _ rfl⟩
  have hDk : D ≠ h3.objs.size := Nat.ne_of_lt (Heap.lt_size he3)
  have hkn : H h3.objs.size = none := by rw [upd_ne hDk.symm] at hk3; exact hk3
  have ki : KyI H (upd (upd H D (.frz (seqObj "list" #[] e1) (.lst []))) h3.objs.size (.lst [])) D h3.objs.size (seqObj "list" #[] e1) [] [] :=
    ⟨(same_new hD).trans (same_new hk3), by rw [upd_ne hDk, upd_same], upd_same, .nil, hkn⟩
  generalize h3.objs.size = kS at *
  unfold ksk_rest
  refine wpAny_bind (wpAny_rule ?_)
  rw [List.forIn_toArray]
  refine wpAny_bind (wpAny_mono (ky_loop (E := X.xe) F hr hb hDk (fun x s' C hx => ?_) as its [] [] _ _ rv I4 ki hk (by simpa using h64)) (fun _ s' hd => ?_) fun _ _ z => z)
  · refine wpAny_bind (wpAny_attempt (wpAny_mono hx (fun u s1 hu => ?_) fun _ _ hF => hF.elim))
    try dsimp only
    exact wpAny_bind (wpAny_mono hu (fun _ s2 hc => wpAny_pure ⟨rfl, hc⟩) fun _ _ z => z)
  · obtain ⟨H2, ks2, I2, ki2⟩ := hd
    try dsimp only
    obtain ⟨_, kits, n2, kv, ek⟩ := I2.hok kS _ ki2.k
    refine wpAny_bind (listItems_at ek rfl ?_)
    refine ky_end (κ := κ) hun hDk hD hnf I2 ki2 rv kv h64 hκ fun bs s3 H3 hp hw I5 hS hb5 => ?_
    exact ⟨_, rfl, wpAny_pure ⟨_, rfl, .ref D, H3, I5, rfl, q bs D H3 hp hw hD hS hb5⟩⟩
variable {e ef : Expr} {p pos kp : Pos} {t tk : TA}
def tSrtK (K : PySem.W.Frag) (f : Addr) (t tk : TA) : TE := fun σ H Q => t σ H fun vs H1 => tk σ H1 fun zs H2 => ∃ y g, vs = [y] ∧ zs = [g] ∧ rSrtK K f y g H2 Q
/-- sorted(e, key=f) -/
theorem pe_srtK (F : FnOk X.prog X.w X.K X.mg X.base CX0 k f fd [x0] spKy) (hr : Room (k + 2) X.A) (hb : Binds X.K fd [x0] []) (hg : Gl X "sorted") (hm : X.mg "sorted" = none) (ha : PA X [e] t) (hk : PK X [⟨some "key", ef, kp⟩] tk)
    (hs : starEach [e] X.env = [(false, eval e X.env)] := by rfl) : PE X (.Call (.Name "sorted" p) [e] [⟨some "key", ef, kp⟩] pos) (tSrtK X.K f t tk) := by
  intro pins s σ H Q I h
  refine wpAny_Call_Name_kw (ld_blt I hg hm PyProof.Rows.boot_sorted ?_ (by decide) (by decide))
  refine callWith_kw ?_ (by rw [hs]; rfl) (by rw [hs]; rfl)
  refine thn (ha pos pins s σ H _ I h) fun us s1 ⟨vs, H1, I1, r1, q1⟩ => ?_
  refine thn (hk pos pins s1 σ H1 _ I1 q1) fun ws s2 ⟨zs, H2, I2, r2, y, g, ey, eg, q2⟩ => ?_
  subst ey eg
  obtain ⟨u, rfl, ru⟩ := vals1 r1
  obtain ⟨v, rfl, rv⟩ := vals1 r2
  exact call_srtK F hr hb I2 ru rv q2
end
end L2


set_option Elab.async false
set_option linter.all false
set_option maxRecDepth 100000
set_option maxHeartbeats 1600000
/-! the table of a set, as a thing of its own -/
namespace ST
open PySem PySem.SetTable
/-- strictly rising -/
def Up (xs : Array Nat) : Prop := ∀ i j, i < j → j < xs.size → xs.getD i 0 < xs.getD j 0
theorem getD_in {xs : Array Nat} {i d e : Nat} (h : i < xs.size) : xs.getD i d = xs.getD i e := by simp [Array.getD, h]
theorem Up.le {xs : Array Nat} (u : Up xs) {i j : Nat} (h : i ≤ j) (hj : j < xs.size) : xs.getD i 0 ≤ xs.getD j 0 := by
  by_cases e : i = j
  · rw [e]; exact Nat.le_refl _
  · exact Nat.le_of_lt (u i j (by omega) hj)
theorem go_spec {xs : Array Nat} (u : Up xs) (j : Nat) : ∀ (f lo hi : Nat), hi - lo ≤ f → lo ≤ hi → hi ≤ xs.size → (∀ i, i < lo → xs.getD i 0 < j) → (∀ i, hi ≤ i → i < xs.size → j ≤ xs.getD i 0) →
    lo ≤ below.go xs j f lo hi ∧ below.go xs j f lo hi ≤ hi ∧ (∀ i, i < below.go xs j f lo hi → xs.getD i 0 < j) ∧ (∀ i, below.go xs j f lo hi ≤ i → i < xs.size → j ≤ xs.getD i 0)
  | 0, lo, hi, hf, hl, hh, a, b => by
    show lo ≤ lo ∧ lo ≤ hi ∧ (∀ i, i < lo → _) ∧ (∀ i, lo ≤ i → _)
    exact ⟨Nat.le_refl _, hl, a, fun i hi' => b i (by omega)⟩
  | f + 1, lo, hi, hf, hl, hh, a, b => by
    unfold below.go
    by_cases c : lo < hi
    · rw [if_pos c]
      dsimp only
      have hm : (lo + hi) / 2 < xs.size := by omega
      by_cases d : xs.getD ((lo + hi) / 2) j < j
      · rw [if_pos d]
        rw [getD_in (e := 0) hm] at d
        obtain ⟨h1, h2, h3, h4⟩ := go_spec u j f ((lo + hi) / 2 + 1) hi (by omega) (by omega) hh (fun i hi' => Nat.lt_of_le_of_lt (u.le (by omega) hm) d) b
        exact ⟨by omega, h2, h3, h4⟩
      · rw [if_neg d]
        rw [getD_in (e := 0) hm] at d
        obtain ⟨h1, h2, h3, h4⟩ := go_spec u j f lo ((lo + hi) / 2) (by omega) (by omega) (by omega) a (fun i h1 h2 => Nat.le_trans (by omega) (u.le h1 h2))
        exact ⟨h1, by omega, h3, h4⟩
    · rw [if_neg c]
      exact ⟨Nat.le_refl _, hl, a, fun i hi' => b i (by omega)⟩
theorem below_spec {xs : Array Nat} (u : Up xs) (j : Nat) : below xs j ≤ xs.size ∧ (∀ i, i < below xs j → xs.getD i 0 < j) ∧ (∀ i, below xs j ≤ i → i < xs.size → j ≤ xs.getD i 0) := by
  have := go_spec u j xs.size 0 xs.size (by omega) (Nat.zero_le _) (Nat.le_refl _) (fun i h => absurd h (by omega)) (fun i h1 h2 => absurd h2 (by omega))
  exact this.2
theorem below_at {xs : Array Nat} (u : Up xs) {i : Nat} (h : i < xs.size) : below xs (xs.getD i 0) = i := by
  obtain ⟨h1, h2, h3⟩ := below_spec u (xs.getD i 0)
  rcases Nat.lt_trichotomy (below xs (xs.getD i 0)) i with c | c | c
  · have a := h3 _ (Nat.le_refl _) (by omega)
    have b := u _ _ c h
    omega
  · exact c
  · have := h2 i c
    omega
/-- the slots that are taken -/
def Occ (xs : Array Nat) (j : Nat) : Prop := ∃ i, i < xs.size ∧ xs.getD i 0 = j
theorem getElem?_getD {xs : Array Nat} {i : Nat} (h : i < xs.size) : xs[i]? = some (xs.getD i 0) := by simp [Array.getD, h]
theorem not_occ {xs : Array Nat} (u : Up xs) {j : Nat} (h : ¬ Occ xs j) : (xs[below xs j]? == some j) = false := by
  rw [beq_eq_false_iff_ne]
  intro e
  obtain ⟨hs, e2⟩ := Array.getElem?_eq_some_iff.mp e
  exact h ⟨_, hs, by simp [Array.getD, hs, e2]⟩
theorem slot_live {t : SetTable} (u : Up t.place) {i : Nat} (h : i < t.place.size) : t.slot (t.place.getD i 0) = .live i := by
  unfold SetTable.slot
  dsimp only
  rw [below_at u h, getElem?_getD h, if_pos (by simp)]
theorem has_nil (j : Nat) : has #[] j = false := rfl
theorem slot_empty {t : SetTable} (u : Up t.place) (hd : t.dummies = #[]) {j : Nat} (h : ¬ Occ t.place j) : t.slot j = .empty := by
  unfold SetTable.slot
  dsimp only
  rw [not_occ u h, hd, has_nil]
  rfl
/-! ### a thing put in -/
theorem ins_get {α : Type} {xs : Array α} {p : Nat} {x : α} (hp : p ≤ xs.size) (i : Nat) : (insertAt xs p x)[i]? = if i < p then xs[i]? else if i = p then some x else xs[i - 1]? := by
  rw [← Array.getElem?_toList, SetTable.toList_insertAt]
  have hl : (xs.toList.take p).length = p := by rw [List.length_take, Array.length_toList]; omega
  by_cases a : i < p
  · rw [if_pos a, List.getElem?_append_left (by omega), List.getElem?_take_of_lt a, Array.getElem?_toList]
  · rw [if_neg a, List.getElem?_append_right (by omega), hl]
    by_cases b : i = p
    · rw [if_pos b, b, Nat.sub_self]; rfl
    · rw [if_neg b, show i - p = (i - p - 1) + 1 by omega, List.getElem?_cons_succ, List.getElem?_drop, Array.getElem?_toList, show p + (i - p - 1) = i - 1 by omega]
theorem ins_size {α : Type} {xs : Array α} {p : Nat} {x : α} : (insertAt xs p x).size = xs.size + 1 := by
  have := (insertAt_perm xs p x).length_eq
  rw [Array.length_toList, Array.length_toList, Array.size_push] at this
  exact this
theorem ins_getD {xs : Array Nat} {p x : Nat} (hp : p ≤ xs.size) (i : Nat) : (insertAt xs p x).getD i 0 = if i < p then xs.getD i 0 else if i = p then x else xs.getD (i - 1) 0 := by
  rw [Array.getD_eq_getD_getElem?, ins_get hp]
  by_cases a : i < p
  · rw [if_pos a, if_pos a, ← Array.getD_eq_getD_getElem?]
  · rw [if_neg a, if_neg a]
    by_cases b : i = p
    · rw [if_pos b, if_pos b]; rfl
    · rw [if_neg b, if_neg b, ← Array.getD_eq_getD_getElem?]
theorem ins_up {xs : Array Nat} (u : Up xs) {j : Nat} (h : ¬ Occ xs j) : Up (insertAt xs (below xs j) j) := by
  obtain ⟨h1, h2, h3⟩ := below_spec u j
  have h4 : ∀ i, below xs j ≤ i → i < xs.size → j < xs.getD i 0 := fun i a b => by
    have := h3 i a b
    have : xs.getD i 0 ≠ j := fun e => h ⟨i, b, e⟩
    omega
  intro a b hab hb
  rw [ins_size] at hb
  rw [ins_getD h1, ins_getD h1]
  by_cases ca : a < below xs j
  · rw [if_pos ca]
    by_cases cb : b < below xs j
    · rw [if_pos cb]; exact u a b hab (by omega)
    · rw [if_neg cb]
      by_cases eb : b = below xs j
      · rw [if_pos eb]; exact h2 a ca
      · rw [if_neg eb]; exact u a (b - 1) (by omega) (by omega)
  · rw [if_neg ca, if_neg (show ¬ b < below xs j by omega), if_neg (show ¬ b = below xs j by omega)]
    by_cases ea : a = below xs j
    · rw [if_pos ea]; exact h4 _ (by omega) (by omega)
    · rw [if_neg ea]; exact u (a - 1) (b - 1) (by omega) (by omega)
theorem occ_ins {xs : Array Nat} (u : Up xs) {j k : Nat} : Occ (insertAt xs (below xs j) j) k ↔ Occ xs k ∨ k = j := by
  obtain ⟨h1, _, _⟩ := below_spec u j
  constructor
  · rintro ⟨i, hi, e⟩
    rw [ins_size] at hi
    rw [ins_getD h1] at e
    by_cases a : i < below xs j
    · rw [if_pos a] at e; exact .inl ⟨i, by omega, e⟩
    · rw [if_neg a] at e
      by_cases b : i = below xs j
      · rw [if_pos b] at e; exact .inr e.symm
      · rw [if_neg b] at e; exact .inl ⟨i - 1, by omega, e⟩
  · rintro (⟨i, hi, e⟩ | rfl)
    · by_cases a : i < below xs j
      · exact ⟨i, by rw [ins_size]; omega, by rw [ins_getD h1, if_pos a]; exact e⟩
      · exact ⟨i + 1, by rw [ins_size]; omega, by rw [ins_getD h1, if_neg (by omega), if_neg (by omega), Nat.add_sub_cancel]; exact e⟩
    · exact ⟨below xs k, by rw [ins_size]; omega, by rw [ins_getD h1, if_neg (by omega), if_pos rfl]⟩
/-! ### ways through what is taken -/
def adv (mask : Nat) (p : Probe) : Probe :=
  if p.more > 0 then { p with j := p.j + 1, more := p.more - 1 } else
  let (i, perturb) := leap mask p.i p.perturb
  { p with j := i, more := runEnd mask i - i, i, perturb }
/-- from p by n steps over slots that are taken to the slot j -/
inductive Way (mask : Nat) (O : Nat → Prop) : Probe → Nat → Nat → Prop where
  | here {p : Probe} : Way mask O p 0 p.j
  | step {p : Probe} {n j : Nat} : O p.j → Way mask O (adv mask p) n j → Way mask O p (n + 1) j
theorem Way.mono {mask : Nat} {O O' : Nat → Prop} (h : ∀ j, O j → O' j) {p : Probe} {n j : Nat} (w : Way mask O p n j) : Way mask O' p n j := by
  induction w with
  | here => exact .here
  | step o _ ih => exact .step (h _ o) ih
/-- the walk to some empty slot among the next n -/
def advN (mask : Nat) : Nat → Probe → Probe
  | 0, p => p
  | n + 1, p => advN mask n (adv mask p)
theorem walk {mask : Nat} {O : Nat → Prop} [DecidablePred O] : ∀ (n : Nat) (p : Probe), ¬ O (advN mask n p).j → ∃ m j, m ≤ n ∧ Way mask O p m j ∧ ¬ O j
  | 0, p, h => ⟨0, _, Nat.le_refl _, .here, h⟩
  | n + 1, p, h => by
    by_cases c : O p.j
    · obtain ⟨m, j, h1, h2, h3⟩ := walk n (adv mask p) h
      exact ⟨m + 1, j, by omega, .step c h2, h3⟩
    · exact ⟨0, _, by omega, .here, c⟩
/-- where a run begins -/
def runAt (mask i pt : Nat) : Probe := { j := i, more := runEnd mask i - i, i := i, perturb := pt, dummy := none }
theorem advN_add (mask : Nat) : ∀ (a b : Nat) (p : Probe), advN mask (a + b) p = advN mask b (advN mask a p)
  | 0, b, p => by rw [Nat.zero_add]; rfl
  | a + 1, b, p => by
    rw [show a + 1 + b = (a + b) + 1 by omega]
    exact advN_add mask a b (adv mask p)
theorem adv_more (mask : Nat) : ∀ (k : Nat) (p : Probe), k ≤ p.more → advN mask k p = { p with j := p.j + k, more := p.more - k }
  | 0, p, _ => rfl
  | k + 1, p, h => by
    have e : adv mask p = { p with j := p.j + 1, more := p.more - 1 } := by unfold adv; rw [if_pos (by omega)]
    show advN mask k (adv mask p) = _
    rw [e, adv_more mask k _ (by show k ≤ p.more - 1; omega)]
    show ({ j := p.j + 1 + k, more := p.more - 1 - k, i := p.i, perturb := p.perturb, dummy := p.dummy } : Probe) = _
    rw [show p.j + 1 + k = p.j + (k + 1) by omega, show p.more - 1 - k = p.more - (k + 1) by omega]
theorem run_len (mask i : Nat) : runEnd mask i - i ≤ 9 := by unfold runEnd; split <;> omega
theorem run_next (mask i pt : Nat) : advN mask (runEnd mask i - i + 1) (runAt mask i pt) = runAt mask (leap mask i pt).1 (leap mask i pt).2 := by
  rw [advN_add, adv_more mask (runEnd mask i - i) (runAt mask i pt) (Nat.le_refl _)]
  show adv mask _ = _
  unfold adv
  rw [if_neg (by show ¬ (runEnd mask i - i - (runEnd mask i - i) > 0); omega)]
  rfl
/-- the r-th run -/
def base (mask : Nat) : Nat → Nat → Nat → Nat × Nat
  | 0, i, pt => (i, pt)
  | r + 1, i, pt => base mask r (leap mask i pt).1 (leap mask i pt).2
theorem to_base (mask : Nat) : ∀ (r i pt : Nat), ∃ m, m ≤ 10 * r ∧ advN mask m (runAt mask i pt) = runAt mask (base mask r i pt).1 (base mask r i pt).2
  | 0, i, pt => ⟨0, Nat.le_refl _, rfl⟩
  | r + 1, i, pt => by
    obtain ⟨m, h1, h2⟩ := to_base mask r (leap mask i pt).1 (leap mask i pt).2
    have := run_len mask i
    refine ⟨runEnd mask i - i + 1 + m, by omega, ?_⟩
    rw [advN_add, run_next, h2]
    rfl
theorem base_add (mask : Nat) : ∀ (a b i pt : Nat), base mask (a + b) i pt = base mask b (base mask a i pt).1 (base mask a i pt).2
  | 0, b, i, pt => by rw [Nat.zero_add]; rfl
  | a + 1, b, i, pt => by
    rw [show a + 1 + b = (a + b) + 1 by omega]
    exact base_add mask a b _ _
theorem base_pt (mask : Nat) : ∀ (r i pt : Nat), (base mask r i pt).2 = pt / 32 ^ r
  | 0, i, pt => by show pt = _; simp
  | r + 1, i, pt => by
    show (base mask r (leap mask i pt).1 (leap mask i pt).2).2 = _
    rw [base_pt mask r]
    show pt / 32 / 32 ^ r = _
    rw [Nat.div_div_eq_div_mul, Nat.pow_succ', ]
theorem base_lt (mask : Nat) : ∀ (r i pt : Nat), i ≤ mask → (base mask r i pt).1 ≤ mask
  | 0, i, pt, h => h
  | r + 1, i, pt, h => base_lt mask r _ _ (by
    show (i * 5 + 1 + pt / 32) % (mask + 1) ≤ mask
    have := Nat.mod_lt (i * 5 + 1 + pt / 32) (show mask + 1 > 0 by omega)
    omega)
/-- with nothing left of the hash all slots come -/
def spin (mask : Nat) : Nat → Nat → Nat
  | 0, i => i
  | r + 1, i => spin mask r ((i * 5 + 1) % (mask + 1))
theorem base_spin (mask : Nat) : ∀ (r i : Nat), base mask r i 0 = (spin mask r i, 0)
  | 0, i => rfl
  | r + 1, i => by
    show base mask r ((i * 5 + 1 + 0 / 32) % (mask + 1)) (0 / 32) = _
    rw [show i * 5 + 1 + 0 / 32 = i * 5 + 1 by omega, show 0 / 32 = 0 by rfl, base_spin mask r]
    rfl
abbrev Mk (mask : Nat) : Prop := mask = 7 ∨ mask = 31 ∨ mask = 127
/-- all the slots that come, as bits -/
def spinsT (mask : Nat) : Nat → Nat → Nat → Nat
  | 0, _, acc => acc
  | r + 1, i, acc => spinsT mask r ((i * 5 + 1) % (mask + 1)) (acc ||| (1 <<< i))
theorem mem_spins (mask : Nat) : ∀ (r i acc e : Nat), (spinsT mask r i acc).testBit e = true → acc.testBit e = true ∨ ∃ m, m < r ∧ spin mask m i = e
  | 0, i, acc, e, h => .inl h
  | r + 1, i, acc, e, h => by
    rcases mem_spins mask r _ _ e h with h | ⟨m, h1, h2⟩
    · rw [Nat.testBit_or, Bool.or_eq_true] at h
      rcases h with h | h
      · exact .inl h
      · rw [Nat.shiftLeft_eq, Nat.one_mul, Nat.testBit_two_pow] at h
        exact .inr ⟨0, by omega, of_decide_eq_true h⟩
    · exact .inr ⟨m + 1, by omega, h2⟩
def coversL (mask : Nat) : Bool := (List.range (mask + 1)).all fun i => spinsT mask (mask + 1) i 0 == 2 ^ (mask + 1) - 1
theorem coversL7 : coversL 7 = true := by decide +kernel
theorem coversL31 : coversL 31 = true := by decide +kernel
theorem coversL127 : coversL 127 = true := by decide +kernel
theorem spin_all {mask : Nat} (hm : Mk mask) {i e : Nat} (hi : i ≤ mask) (he : e ≤ mask) : ∃ m, m ≤ mask ∧ spin mask m i = e := by
  have c : coversL mask = true := by
    rcases hm with rfl | rfl | rfl
    · exact coversL7
    · exact coversL31
    · exact coversL127
  unfold coversL at c
  rw [List.all_eq_true] at c
  have c1 := c i (List.mem_range.mpr (by omega))
  rw [beq_iff_eq] at c1
  rcases mem_spins mask (mask + 1) i 0 e (by rw [c1, Nat.testBit_two_pow_sub_one]; exact decide_eq_true (by omega)) with h | ⟨m, h1, h2⟩
  · rw [Nat.zero_testBit] at h; cases h
  · exact ⟨m, by omega, h2⟩
theorem bits_lt (h : Int) : bits h < 2 ^ 64 := by
  unfold bits
  have h1 := Int.emod_nonneg h (b := 2 ^ 64) (by decide)
  have h2 := Int.emod_lt_of_pos h (b := 2 ^ 64) (by decide)
  omega
/-- each slot begins a run, soon enough -/
theorem base_all {mask : Nat} (hm : Mk mask) {i pt e : Nat} (hi : i ≤ mask) (hp : pt < 2 ^ 64) (he : e ≤ mask) : ∃ r, r ≤ mask + 13 ∧ (base mask r i pt).1 = e := by
  obtain ⟨m, h1, h2⟩ := spin_all hm (base_lt mask 13 i pt hi) he
  refine ⟨13 + m, by omega, ?_⟩
  have e0 : (base mask 13 i pt).2 = 0 := by
    rw [base_pt]
    exact Nat.div_eq_of_lt (Nat.lt_of_lt_of_le hp (by decide))
  rw [base_add, e0, base_spin]
  exact h2
end ST


set_option Elab.async false
set_option linter.all false
set_option maxRecDepth 100000
set_option maxHeartbeats 1600000
namespace ST
open PySem PySem.SetTable
theorem occ_up {xs : Array Nat} (u : Up xs) : ∀ e, (∀ k, k < e → Occ xs k) → e ≤ below xs e
  | 0, _ => Nat.zero_le _
  | e + 1, h => by
    have ih := occ_up u e fun k hk => h k (by omega)
    obtain ⟨i, hi, ei⟩ := h e (by omega)
    have hb : below xs e = i := by rw [← ei]; exact below_at u hi
    obtain ⟨h1, h2, h3⟩ := below_spec u (e + 1)
    by_cases c : below xs (e + 1) ≤ i
    · have := h3 i c hi
      omega
    · omega
/-- not all slots are taken -/
theorem empty_ex {xs : Array Nat} (u : Up xs) {mask : Nat} (h : xs.size ≤ mask) : ∃ e, e ≤ mask ∧ ¬ Occ xs e := by
  apply Classical.byContradiction
  intro c
  have a := occ_up u (mask + 1) fun k hk => Classical.byContradiction fun z => c ⟨k, by omega, z⟩
  have := (below_spec u (mask + 1)).1
  omega
abbrev B (mask : Nat) : Nat := 10 * turns mask
/-- the table is as its entries want it, but for its room -/
structure TB (es : Array (Int × Value)) (t : SetTable) : Prop where
  mask : Mk t.mask
  dm : t.dummies = #[]
  sz : t.place.size = es.size
  up : Up t.place
  le : ∀ i, i < t.place.size → t.place.getD i 0 ≤ t.mask
  way : ∀ i e, es[i]? = some e → ∃ n, n < B t.mask ∧ Way t.mask (Occ t.place) (t.probeStart e.1) n (t.place.getD i 0)
def Room (es : Array (Int × Value)) (t : SetTable) : Prop := es.size * 5 < t.mask * 3
theorem TB.fresh (finger moves : Nat) (led : Bool) : TB #[] (.fresh finger moves led) := ⟨.inl rfl, rfl, rfl, fun i j _ h => absurd h (by show ¬ j < 0; omega), fun i h => absurd h (by show ¬ i < 0; omega), fun i e h => by simp at h⟩
theorem room_fresh (finger moves : Nat) (led : Bool) : Room #[] (.fresh finger moves led) := by show 0 * 5 < 7 * 3; decide
theorem Occ.of {xs : Array Nat} {i : Nat} (h : i < xs.size) : Occ xs (xs.getD i 0) := ⟨i, h, rfl⟩
theorem adv_dummy {mask : Nat} {p : Probe} (h : p.dummy = none) : (adv mask p).dummy = none := by
  unfold adv
  split <;> exact h
/-- what a probe meets on a way -/
theorem go_way {es : Array (Int × Value)} {t : SetTable} (T : TB es t) {hashAt : Nat → Int} {h : Int} : ∀ (n fuel : Nat) (p : Probe) (j : Nat), Way t.mask (Occ t.place) p n j → n < fuel → p.dummy = none → (∀ i, i < t.place.size → t.place.getD i 0 = j → hashAt i = h) →
    (¬ Occ t.place j ∧ SetTable.probe.go t hashAt h fuel p = some (.empty j none)) ∨
    ∃ i next, i < t.place.size ∧ hashAt i = h ∧ SetTable.probe.go t hashAt h fuel p = some (.candidate (t.place.getD i 0) i next) ∧ (t.place.getD i 0 = j ∨ ∃ n', n' < n ∧ Way t.mask (Occ t.place) next n' j ∧ next.dummy = none)
  | n, 0, p, j, w, hf, hd, hj => by omega
  | n, fuel + 1, p, j, w, hf, hd, hj => by
    unfold SetTable.probe.go
    by_cases o : Occ t.place p.j
    · obtain ⟨i, hi, ei⟩ := o
      rw [← ei, slot_live T.up hi]
      dsimp only
      by_cases c : hashAt i = h
      · rw [if_pos (by rw [c]; simp)]
        refine .inr ⟨i, t.advance p, hi, c, rfl, ?_⟩
        cases w with
        | here => exact .inl ei
        | step o w => exact .inr ⟨_, Nat.lt_succ_self _, w, adv_dummy hd⟩
      · rw [if_neg (by simpa using c)]
        cases w with
        | here => exact absurd (hj i hi ei) c
        | @step _ n _ o w =>
          rcases go_way T n fuel (adv t.mask p) j w (by omega) (adv_dummy hd) hj with z | ⟨i', next, a1, a2, a3, a4⟩
          · exact .inl z
          · refine .inr ⟨i', next, a1, a2, a3, ?_⟩
            rcases a4 with a4 | ⟨n', b1, b2, b3⟩
            · exact .inl a4
            · exact .inr ⟨n', by omega, b2, b3⟩
    · rw [slot_empty T.up T.dm o]
      dsimp only
      cases w with
      | here => exact .inl ⟨o, by rw [hd]⟩
      | step o' w => exact absurd o' o
def POk (mask : Nat) (p : Probe) : Prop := p.i ≤ mask ∧ p.j + p.more ≤ mask
theorem runAt_ok {mask i pt : Nat} (hi : i ≤ mask) : POk mask (runAt mask i pt) := by
  refine ⟨hi, ?_⟩
  show i + (runEnd mask i - i) ≤ mask
  unfold runEnd
  split <;> omega
theorem adv_ok {mask : Nat} {p : Probe} (h : POk mask p) : POk mask (adv mask p) := by
  unfold adv
  split
  · refine ⟨h.1, ?_⟩
    have := h.2
    show p.j + 1 + (p.more - 1) ≤ mask
    omega
  · have hl : (leap mask p.i p.perturb).1 ≤ mask := by
      show (p.i * 5 + 1 + p.perturb / 32) % (mask + 1) ≤ mask
      have := Nat.mod_lt (p.i * 5 + 1 + p.perturb / 32) (show mask + 1 > 0 by omega)
      omega
    refine ⟨hl, ?_⟩
    show (leap mask p.i p.perturb).1 + (runEnd mask (leap mask p.i p.perturb).1 - (leap mask p.i p.perturb).1) ≤ mask
    unfold runEnd
    split <;> omega
theorem way_le {mask : Nat} {O : Nat → Prop} {p : Probe} {n j : Nat} (w : Way mask O p n j) : POk mask p → j ≤ mask := by
  induction w with
  | here => intro h; have := h.2; omega
  | step _ _ ih => intro h; exact ih (adv_ok h)
/-- a way to an empty slot -/
theorem TB.free {es : Array (Int × Value)} {t : SetTable} (T : TB es t) (R : Room es t) (h : Int) : ∃ n j, n < B t.mask ∧ Way t.mask (Occ t.place) (t.probeStart h) n j ∧ ¬ Occ t.place j ∧ j ≤ t.mask := by
  have hs : t.place.size ≤ t.mask := by
    have := R
    unfold Room at this
    rw [T.sz]
    omega
  obtain ⟨e, he, ho⟩ := empty_ex T.up hs
  haveI : DecidablePred (Occ t.place) := fun _ => Classical.propDecidable _
  have hi : bits h % (t.mask + 1) ≤ t.mask := by have := Nat.mod_lt (bits h) (show t.mask + 1 > 0 by omega); omega
  obtain ⟨r, h1, h2⟩ := base_all T.mask (pt := bits h) hi (bits_lt h) he
  obtain ⟨m, h3, h4⟩ := to_base t.mask r (bits h % (t.mask + 1)) (bits h)
  obtain ⟨n, j, h5, h6, h7⟩ := walk (mask := t.mask) (O := Occ t.place) m (runAt t.mask (bits h % (t.mask + 1)) (bits h)) (by rw [h4]; show ¬ Occ t.place (base t.mask r _ _).1; rw [h2]; exact ho)
  refine ⟨n, j, ?_, h6, h7, ?_⟩
  · show n < 10 * (t.mask + 15)
    omega
  · exact way_le h6 (runAt_ok hi)
/-! ### put -/
theorem put_eq {t : SetTable} (hd : t.dummies = #[]) (j : Nat) : t.put j = ({ t with place := insertAt t.place (below t.place j) j, dummies := #[] }, below t.place j) := by
  unfold SetTable.put
  dsimp only
  rw [hd, has_nil]
  rfl
theorem TB.put {es : Array (Int × Value)} {t : SetTable} (T : TB es t) {h : Int} {x : Value} {n j : Nat} (hn : n < B t.mask) (w : Way t.mask (Occ t.place) (t.probeStart h) n j) (ho : ¬ Occ t.place j) (hj : j ≤ t.mask) :
    TB (insertAt es (t.put j).2 (h, x)) (t.put j).1 := by
  rw [put_eq T.dm]
  obtain ⟨h1, h2, h3⟩ := below_spec T.up j
  have mono : ∀ k, Occ t.place k → Occ (insertAt t.place (below t.place j) j) k := fun k o => (occ_ins T.up).mpr (.inl o)
  refine ⟨T.mask, rfl, ?_, ins_up T.up ho, ?_, ?_⟩
  · show (insertAt t.place _ j).size = _
    rw [ins_size, ins_size, T.sz]
  · intro i hi
    have hi : i < t.place.size + 1 := by rw [← ins_size (p := below t.place j) (x := j)]; exact hi
    show (insertAt t.place _ j).getD i 0 ≤ t.mask
    rw [ins_getD h1]
    split
    · exact T.le i (by omega)
    · split
      · exact hj
      · exact T.le (i - 1) (by omega)
  · intro i e he
    rw [ins_get (by rw [← T.sz]; exact h1)] at he
    show ∃ n, n < B t.mask ∧ Way t.mask (Occ (insertAt t.place (below t.place j) j)) (t.probeStart e.1) n ((insertAt t.place (below t.place j) j).getD i 0)
    rw [ins_getD h1]
    by_cases a : i < below t.place j
    · rw [if_pos a] at he ⊢
      obtain ⟨m, hm, w⟩ := T.way i e he
      exact ⟨m, hm, w.mono mono⟩
    · rw [if_neg a] at he ⊢
      by_cases b : i = below t.place j
      · rw [if_pos b] at he ⊢
        cases he
        exact ⟨n, hn, w.mono mono⟩
      · rw [if_neg b] at he ⊢
        obtain ⟨m, hm, w⟩ := T.way (i - 1) e he
        exact ⟨m, hm, w.mono mono⟩
/-! ### laid anew -/
def Taken (owner : Array (Option Nat)) (j : Nat) : Prop := ∃ i, owner[j]? = some (some i)
theorem way_run {mask : Nat} {O : Nat → Prop} : ∀ (k : Nat) (p : Probe), k ≤ p.more → (∀ m, m < k → O (p.j + m)) → Way mask O p k (p.j + k)
  | 0, p, _, _ => .here
  | k + 1, p, h, o => by
    have e : adv mask p = { p with j := p.j + 1, more := p.more - 1 } := by unfold adv; rw [if_pos (by omega)]
    refine .step (o 0 (by omega)) ?_
    have := way_run (mask := mask) (O := O) k (adv mask p) (by rw [e]; show k ≤ p.more - 1; omega) (fun m hm => by rw [e]; show O (p.j + 1 + m); rw [show p.j + 1 + m = p.j + (m + 1) by omega]; exact o (m + 1) (by omega))
    rw [e] at this ⊢
    rw [show p.j + (k + 1) = p.j + 1 + k by omega]
    exact this
theorem way_pre {mask : Nat} {O : Nat → Prop} : ∀ (k : Nat) (p : Probe) {n j : Nat}, (∀ m, m < k → O (advN mask m p).j) → Way mask O (advN mask k p) n j → Way mask O p (k + n) j
  | 0, p, n, j, _, w => by rw [Nat.zero_add]; exact w
  | k + 1, p, n, j, o, w => by
    rw [show k + 1 + n = (k + n) + 1 by omega]
    exact .step (o 0 (by omega)) (way_pre k (adv mask p) (fun m hm => o (m + 1) (by omega)) w)
theorem free_spec {mask : Nat} {owner : Array (Option Nat)} (hs : owner.size = mask + 1) : ∀ (fuel i pt : Nat), i ≤ mask →
    (∃ j n, layClean.free mask owner fuel i pt = some j ∧ n < 10 * fuel ∧ Way mask (Taken owner) (runAt mask i pt) n j ∧ j ≤ mask ∧ owner[j]? = some none) ∨
    (layClean.free mask owner fuel i pt = none ∧ ∀ r, r < fuel → Taken owner (base mask r i pt).1)
  | 0, i, pt, hi => .inr ⟨rfl, fun r h => absurd h (by omega)⟩
  | fuel + 1, i, pt, hi => by
    have hrun : runEnd mask i ≤ mask ∧ i ≤ runEnd mask i := by unfold runEnd; split <;> omega
    have hlen := run_len mask i
    have look : ∀ k, i + k ≤ mask → ((owner.getD (i + k) (some 0)).isNone = true ∧ owner[i + k]? = some none) ∨ ((owner.getD (i + k) (some 0)).isNone = false ∧ Taken owner (i + k)) := fun k hk => by
      have hk' : i + k < owner.size := by omega
      have e : owner.getD (i + k) (some 0) = owner[i + k] := by simp [Array.getD, hk']
      have e2 : owner[i + k]? = some owner[i + k] := Array.getElem?_eq_getElem hk'
      rw [e, e2]
      cases z : owner[i + k] with
      | none => exact .inl ⟨rfl, rfl⟩
      | some v => exact .inr ⟨rfl, v, by rw [e2, z]⟩
    unfold layClean.free
    split
    · rename_i k hk
      obtain ⟨hp, hr, hb⟩ := List.find?_range_eq_some.mp hk
      have hr := List.mem_range.mp hr
      refine .inl ⟨i + k, k, rfl, by omega, ?_, by omega, ?_⟩
      · refine way_run k (runAt mask i pt) (by show k ≤ runEnd mask i - i; omega) fun m hm => ?_
        have := hb m hm
        rcases look m (by omega) with ⟨a, _⟩ | ⟨_, b⟩
        · rw [a] at this; cases this
        · exact b
      · rcases look k (by omega) with ⟨_, b⟩ | ⟨a, _⟩
        · exact b
        · rw [a] at hp; cases hp
    · rename_i hk
      have hn : ∀ k, k < runEnd mask i + 1 - i → Taken owner (i + k) := fun k hk' => by
        have := List.find?_range_eq_none.mp hk k hk'
        rcases look k (by omega) with ⟨a, _⟩ | ⟨_, b⟩
        · rw [a] at this; cases this
        · exact b
      have hl : (leap mask i pt).1 ≤ mask := by
        show (i * 5 + 1 + pt / 32) % (mask + 1) ≤ mask
        have := Nat.mod_lt (i * 5 + 1 + pt / 32) (show mask + 1 > 0 by omega)
        omega
      rcases free_spec hs fuel (leap mask i pt).1 (leap mask i pt).2 hl with ⟨j, n, a1, a2, a3, a4, a5⟩ | ⟨a1, a2⟩
      · refine .inl ⟨j, runEnd mask i - i + 1 + n, a1, by omega, ?_, a4, a5⟩
        refine way_pre _ _ (fun m hm => ?_) (by rw [run_next]; exact a3)
        rw [adv_more mask m (runAt mask i pt) (by show m ≤ runEnd mask i - i; omega)]
        exact hn m (by omega)
      · refine .inr ⟨a1, fun r hr => ?_⟩
        cases r with
        | zero => have := hn 0 (by omega); rw [Nat.add_zero] at this; exact this
        | succ r => exact a2 r (by omega)
end ST


set_option Elab.async false
set_option linter.all false
set_option maxRecDepth 100000
set_option maxHeartbeats 1600000
namespace ST
open PySem PySem.SetTable
/-- the first k of the hashes are laid -/
structure Lay (mask : Nat) (hs : List Int) (owner : Array (Option Nat)) (k : Nat) : Prop where
  size : owner.size = mask + 1
  own : ∀ (i : Nat) (h : Int), i < k → hs[i]? = some h → ∃ j n, owner[j]? = some (some i) ∧ n < B mask ∧ Way mask (Taken owner) (runAt mask (bits h % (mask + 1)) (bits h)) n j
  lt : ∀ (j i : Nat), owner[j]? = some (some i) → i < k
  one : ∀ (j j' i : Nat), owner[j]? = some (some i) → owner[j']? = some (some i) → j = j'
def ordOf (mask : Nat) (owner : Array (Option Nat)) : List Nat := (List.range (mask + 1)).filterMap fun j => owner.getD j none
theorem getD_some {owner : Array (Option Nat)} {j i : Nat} : owner.getD j none = some i ↔ owner[j]? = some (some i) := by
  rw [Array.getD_eq_getD_getElem?]
  cases owner[j]? <;> simp
theorem Lay.perm {mask : Nat} {hs : List Int} {owner : Array (Option Nat)} {k : Nat} (L : Lay mask hs owner k) (hk : k ≤ hs.length) : (ordOf mask owner).Perm (List.range k) := by
  rw [List.perm_ext_iff_of_nodup ?_ List.nodup_range]
  · intro i
    rw [List.mem_range]
    unfold ordOf
    rw [List.mem_filterMap]
    constructor
    · rintro ⟨j, _, e⟩
      exact L.lt j i (getD_some.mp e)
    · intro hi
      obtain ⟨j, n, e, _⟩ := L.own i _ hi (List.getElem?_eq_getElem (by omega))
      have hj : j < owner.size := (Array.getElem?_eq_some_iff.mp e).1
      exact ⟨j, List.mem_range.mpr (by rw [← L.size]; exact hj), getD_some.mpr e⟩
  · unfold ordOf
    rw [List.nodup_iff_pairwise_ne, List.pairwise_filterMap]
    refine List.Pairwise.imp ?_ List.nodup_range
    intro j j' hne b hb b' hb' e
    subst e
    exact hne (L.one _ _ _ (getD_some.mp hb) (getD_some.mp hb'))
theorem Lay.empty {mask : Nat} {hs : List Int} {owner : Array (Option Nat)} {k : Nat} (L : Lay mask hs owner k) (hk : k ≤ hs.length) (hm : k ≤ mask) : ∃ e, e ≤ mask ∧ ¬ Taken owner e := by
  apply Classical.byContradiction
  intro c
  have hl := (L.perm hk).length_eq
  rw [List.length_range] at hl
  have all : ∀ l : List Nat, (∀ j ∈ l, j ≤ mask) → (l.filterMap fun j => owner.getD j none).length = l.length := by
    intro l
    induction l with
    | nil => intro _; rfl
    | cons j l ih =>
      intro h
      have t : Taken owner j := Classical.byContradiction fun z => c ⟨j, h j (.head _), z⟩
      obtain ⟨i, e⟩ := t
      rw [List.filterMap_cons, getD_some.mpr e]
      show (_ :: _).length = _
      rw [List.length_cons, List.length_cons, ih fun j' h' => h j' (.tail _ h')]
  have := all (List.range (mask + 1)) fun j hj => by have := List.mem_range.mp hj; omega
  rw [List.length_range] at this
  unfold ordOf at hl
  omega
def layF (mask : Nat) (acc : Option (Array (Option Nat) × Nat)) (h : Int) : Option (Array (Option Nat) × Nat) := do
  let (owner, k) ← acc
  let j ← layClean.free mask owner (turns mask) (bits h % (mask + 1)) (bits h)
  pure (owner.setIfInBounds j (some k), k + 1)
theorem layClean_eq (mask : Nat) (hashes : Array Int) : layClean mask hashes = (hashes.toList.foldl (layF mask) (some (Array.replicate (mask + 1) none, 0))).map (·.1) := by
  unfold layClean
  rw [← Array.foldl_toList]
  rfl
theorem Lay.step {mask : Nat} (hM : Mk mask) {hs : List Int} {owner : Array (Option Nat)} {k : Nat} {h : Int} (L : Lay mask hs owner k) (hk : hs[k]? = some h) (hm : k ≤ mask) :
    ∃ owner', layF mask (some (owner, k)) h = some (owner', k + 1) ∧ Lay mask hs owner' (k + 1) := by
  have hkl : k < hs.length := (List.getElem?_eq_some_iff.mp hk).1
  obtain ⟨e, he, ho⟩ := L.empty (by omega) hm
  have hi : bits h % (mask + 1) ≤ mask := by have := Nat.mod_lt (bits h) (show mask + 1 > 0 by omega); omega
  obtain ⟨r, h1, h2⟩ := base_all hM (pt := bits h) hi (bits_lt h) he
  rcases free_spec L.size (turns mask) (bits h % (mask + 1)) (bits h) hi with ⟨j, n, a1, a2, a3, a4, a5⟩ | ⟨_, a2⟩
  · have hj : j < owner.size := (Array.getElem?_eq_some_iff.mp a5).1
    have at_ : ∀ x, (owner.setIfInBounds j (some k))[x]? = if x = j then some (some k) else owner[x]? := fun x => by
      rw [Array.getElem?_setIfInBounds]
      by_cases c : x = j
      · subst c; rw [if_pos rfl, if_pos rfl, if_pos hj]
      · rw [if_neg (fun z => c z.symm), if_neg c]
    have mono : ∀ x, Taken owner x → Taken (owner.setIfInBounds j (some k)) x := fun x ⟨i, hx⟩ => ⟨i, by rw [at_, if_neg (fun z => by rw [z, a5] at hx; cases hx)]; exact hx⟩
    refine ⟨owner.setIfInBounds j (some k), ?_, ?_, ?_, ?_, ?_⟩
    · show (layClean.free mask owner (turns mask) (bits h % (mask + 1)) (bits h)).bind _ = _
      rw [a1]
      rfl
    · rw [Array.size_setIfInBounds]; exact L.size
    · intro i h' hi' hh
      by_cases c : i = k
      · subst c
        rw [hk] at hh
        cases hh
        exact ⟨j, n, by rw [at_, if_pos rfl], a2, a3.mono mono⟩
      · obtain ⟨j', n', b1, b2, b3⟩ := L.own i h' (by omega) hh
        exact ⟨j', n', by rw [at_, if_neg (fun z => by rw [z, a5] at b1; cases b1)]; exact b1, b2, b3.mono mono⟩
    · intro x i hx
      rw [at_] at hx
      by_cases c : x = j
      · rw [if_pos c] at hx; cases hx; omega
      · rw [if_neg c] at hx
        have := L.lt x i hx
        omega
    · intro x y i hx hy
      rw [at_] at hx hy
      by_cases c : x = j
      · by_cases d : y = j
        · rw [c, d]
        · rw [if_pos c] at hx; rw [if_neg d] at hy
          cases hx
          have := L.lt y k hy
          omega
      · rw [if_neg c] at hx
        by_cases d : y = j
        · rw [if_pos d] at hy
          cases hy
          have := L.lt x k hx
          omega
        · rw [if_neg d] at hy
          exact L.one x y i hx hy
  · exact absurd (by rw [← h2]; exact a2 r (by unfold turns; omega)) ho
theorem Lay.all {mask : Nat} (hM : Mk mask) {hs : List Int} (hl : hs.length ≤ mask + 1) : ∀ (rest : List Int) (owner : Array (Option Nat)) (k : Nat), Lay mask hs owner k → hs.drop k = rest → k ≤ hs.length →
    ∃ owner', rest.foldl (layF mask) (some (owner, k)) = some (owner', hs.length) ∧ Lay mask hs owner' hs.length
  | [], owner, k, L, e, hk => by
    have := congrArg List.length e
    rw [List.length_drop, List.length_nil] at this
    obtain rfl : k = hs.length := by omega
    exact ⟨owner, rfl, L⟩
  | h :: rest, owner, k, L, e, hk => by
    have hkl : k < hs.length := by
      have := congrArg List.length e
      rw [List.length_drop, List.length_cons] at this
      omega
    have ek : hs.drop k = hs[k] :: hs.drop (k + 1) := List.drop_eq_getElem_cons hkl
    rw [ek] at e
    obtain ⟨e1, e2⟩ := List.cons.inj e
    obtain ⟨o2, f1, L2⟩ := L.step hM (h := h) (by rw [List.getElem?_eq_getElem hkl, e1]) (by omega)
    rw [List.foldl_cons, f1]
    exact Lay.all hM hl rest o2 (k + 1) L2 e2 (by omega)
theorem Lay.begin {mask : Nat} {hs : List Int} : Lay mask hs (Array.replicate (mask + 1) none) 0 := by
  have no : ∀ (j i : Nat), (Array.replicate (mask + 1) (none : Option Nat))[j]? ≠ some (some i) := fun j i h => by
    rw [Array.getElem?_replicate] at h
    split at h <;> cases h
  exact ⟨Array.size_replicate, fun i _ h => absurd h (by omega), fun j i h => absurd h (no j i), fun j j' i h => absurd h (no j i)⟩
/-! ### the table laid anew -/
def liveOf (mask : Nat) (owner : Array (Option Nat)) : List (Nat × Nat) := (List.range (mask + 1)).filterMap fun j => (owner.getD j none).map (j, ·)
theorem laid_eq {mask finger moves : Nat} {led plain : Bool} {hashes : Array Int} {owner : Array (Option Nat)} (h : layClean mask hashes = some owner) :
    laid mask finger moves led plain hashes = some ({ mask, place := ((liveOf mask owner).map (·.1)).toArray, dummies := #[], finger, led, moves, plain }, ((liveOf mask owner).map (·.2)).toArray) := by
  unfold laid
  rw [h]
  rfl
theorem live_snd (mask : Nat) (owner : Array (Option Nat)) : (liveOf mask owner).map (·.2) = ordOf mask owner := by
  unfold liveOf ordOf
  rw [List.map_filterMap]
  congr 1
  funext j
  cases owner.getD j none <;> rfl
theorem live_mem {mask : Nat} {owner : Array (Option Nat)} {j i : Nat} : (j, i) ∈ liveOf mask owner ↔ j ≤ mask ∧ owner[j]? = some (some i) := by
  unfold liveOf
  rw [List.mem_filterMap]
  constructor
  · rintro ⟨x, hx, e⟩
    have hx := List.mem_range.mp hx
    obtain ⟨y, hy, e2⟩ := Option.map_eq_some_iff.mp e
    cases e2
    exact ⟨by omega, getD_some.mp hy⟩
  · rintro ⟨h1, h2⟩
    exact ⟨j, List.mem_range.mpr (by omega), by rw [getD_some.mpr h2]; rfl⟩
theorem live_up (mask : Nat) (owner : Array (Option Nat)) : (liveOf mask owner).Pairwise fun a b => a.1 < b.1 := by
  unfold liveOf
  rw [List.pairwise_filterMap]
  refine List.Pairwise.imp ?_ List.pairwise_lt_range
  intro j j' hl a ha b hb
  obtain ⟨_, _, rfl⟩ := Option.map_eq_some_iff.mp ha
  obtain ⟨_, _, rfl⟩ := Option.map_eq_some_iff.mp hb
  exact hl
theorem fm_map {α : Type} {es : Array α} : ∀ (l : List Nat), (∀ i ∈ l, i < es.size) → ∀ n : Nat, (l.filterMap (es[·]?))[n]? = (l[n]?).bind (es[·]?)
  | [], _, n => by simp
  | i :: l, h, n => by
    have hi := h i (.head _)
    rw [List.filterMap_cons, Array.getElem?_eq_getElem hi]
    show (es[i] :: _)[n]? = _
    cases n with
    | zero => simp [Array.getElem?_eq_getElem hi]
    | succ n => simpa using fm_map l (fun i' h' => h i' (.tail _ h')) n
theorem fm_len {α : Type} {es : Array α} : ∀ (l : List Nat), (∀ i ∈ l, i < es.size) → (l.filterMap (es[·]?)).length = l.length
  | [], _ => rfl
  | i :: l, h => by
    rw [List.filterMap_cons, Array.getElem?_eq_getElem (h i (.head _))]
    show (_ :: _).length = _
    rw [List.length_cons, List.length_cons, fm_len l fun i' h' => h i' (.tail _ h')]
theorem relaid_ok {es : Array (Int × Value)} {t : SetTable} {wanted : Nat} (hM : Mk (sizeAbove wanted - 1)) (hs : es.size ≤ sizeAbove wanted - 1) :
    ∃ t' order, t.relaid (es.map (·.1)) wanted = some (t', order) ∧ t'.mask = sizeAbove wanted - 1 ∧ t'.led = t.led ∧ t'.plain = t.plain ∧ (order.filterMap (es[·]?)).size = es.size ∧ (order.filterMap (es[·]?)).toList.Perm es.toList ∧ TB (order.filterMap (es[·]?)) t' := by
  unfold SetTable.relaid
  generalize sizeAbove wanted - 1 = mask at hM hs
  have hlen : ((es.map (·.1)).toList).length = es.size := by simp
  obtain ⟨owner, f1, L⟩ := Lay.all hM (hs := (es.map (·.1)).toList) (by omega) _ _ 0 Lay.begin (List.drop_zero) (Nat.zero_le _)
  have hc : layClean mask (es.map (·.1)) = some owner := by rw [layClean_eq, f1]; rfl
  rw [laid_eq hc]
  refine ⟨_, _, rfl, rfl, rfl, rfl, ?_⟩
  rw [hlen] at L
  have hp := L.perm (by omega)
  rw [live_snd]
  have hm : ∀ i ∈ ordOf mask owner, i < es.size := fun i hi => List.mem_range.mp (hp.mem_iff.mp hi)
  have hl : (ordOf mask owner).length = es.size := by rw [hp.length_eq, List.length_range]
  have hfl : ((ordOf mask owner).toArray.filterMap (es[·]?)).toList = (ordOf mask owner).filterMap (es[·]?) := by rw [Array.toList_filterMap]
  have hsz : ((ordOf mask owner).toArray.filterMap (es[·]?)).size = es.size := by rw [← Array.length_toList, hfl, fm_len _ hm, hl]
  refine ⟨hsz, ?_, ?_⟩
  · rw [hfl]
    exact (hp.filterMap _).trans (by rw [filterMap_getElem?_range])
  · have hll : (liveOf mask owner).length = es.size := by rw [← hl, ← live_snd, List.length_map]
    have gd : ∀ i, i < (liveOf mask owner).length → (((liveOf mask owner).map (·.1)).toArray).getD i 0 = ((liveOf mask owner).getD i (0, 0)).1 := fun i hi => by
      rw [Array.getD_eq_getD_getElem?, List.getElem?_toArray, List.getElem?_map, List.getD_eq_getElem?_getD, List.getElem?_eq_getElem hi]
      rfl
    have gm : ∀ i, i < (liveOf mask owner).length → (liveOf mask owner).getD i (0, 0) ∈ liveOf mask owner := fun i hi => by
      rw [List.getD_eq_getElem?_getD, List.getElem?_eq_getElem hi]
      exact List.getElem_mem hi
    have psz : (((liveOf mask owner).map (·.1)).toArray).size = (liveOf mask owner).length := by simp
    refine ⟨hM, rfl, ?_, ?_, ?_, ?_⟩
    · show (((liveOf mask owner).map (·.1)).toArray).size = _
      rw [psz, hsz, hll]
    · intro a b hab hb
      have hb : b < (liveOf mask owner).length := by rw [← psz]; exact hb
      show (((liveOf mask owner).map (·.1)).toArray).getD a 0 < (((liveOf mask owner).map (·.1)).toArray).getD b 0
      rw [gd a (by omega), gd b hb]
      have := List.pairwise_iff_getElem.mp (live_up mask owner) a b (by omega) hb hab
      rw [List.getD_eq_getElem?_getD, List.getElem?_eq_getElem (by omega), List.getD_eq_getElem?_getD, List.getElem?_eq_getElem hb]
      exact this
    · intro i hi
      have hi : i < (liveOf mask owner).length := by rw [← psz]; exact hi
      show (((liveOf mask owner).map (·.1)).toArray).getD i 0 ≤ mask
      rw [gd i hi]
      exact (live_mem.mp (gm i hi)).1
    · intro i e he
      show ∃ n, n < B mask ∧ Way mask (Occ (((liveOf mask owner).map (·.1)).toArray)) (runAt mask (bits e.1 % (mask + 1)) (bits e.1)) n ((((liveOf mask owner).map (·.1)).toArray).getD i 0)
      have hi : i < (liveOf mask owner).length := by
        have := (Array.getElem?_eq_some_iff.mp he).1
        omega
      rw [← Array.getElem?_toList, hfl, fm_map _ hm] at he
      have ho : (ordOf mask owner)[i]? = some ((liveOf mask owner).getD i (0, 0)).2 := by
        rw [← live_snd, List.getElem?_map, List.getD_eq_getElem?_getD, List.getElem?_eq_getElem hi]
        rfl
      rw [ho] at he
      have he : es[((liveOf mask owner).getD i (0, 0)).2]? = some e := he
      have hg := gm i hi
      rw [gd i hi]
      generalize (liveOf mask owner).getD i (0, 0) = q at he hg
      obtain ⟨j, o⟩ := q
      obtain ⟨_, hj⟩ := live_mem.mp hg
      obtain ⟨j', n, b1, b2, b3⟩ := L.own o e.1 (Array.getElem?_eq_some_iff.mp he).1 (by rw [Array.getElem?_toList, Array.getElem?_map, he]; rfl)
      obtain rfl := L.one _ _ _ hj b1
      refine ⟨n, b2, b3.mono fun x ⟨y, hy⟩ => ?_⟩
      have hx : x ≤ mask := by
        have := (Array.getElem?_eq_some_iff.mp hy).1
        have := L.size
        omega
      obtain ⟨k, hk, ek⟩ := List.mem_iff_getElem.mp (live_mem.mpr ⟨hx, hy⟩)
      refine ⟨k, by rw [psz]; exact hk, ?_⟩
      rw [gd k hk, List.getD_eq_getElem?_getD, List.getElem?_eq_getElem hk, ek]
      rfl
end ST


set_option Elab.async false
set_option linter.all false
set_option maxRecDepth 100000
set_option maxHeartbeats 1600000
namespace ST
open PySem PySem.SetTable
section
variable {prog : Program} {w : World}
abbrev TK (prog : Program) (w : World) (h : Heap) (k : List Int) (a : Addr) : Prop := IsTupleKey (PySem.intKind prog w) h k a
abbrev hK (prog : Program) (w : World) (k : List Int) : Int := tupleKeyHash (PySem.intKind prog w) k
def EK (prog : Program) (w : World) (h : Heap) (e : Int × Value) (k : List Int) : Prop := ∃ b, e = (hK prog w k, .ref b) ∧ TK prog w h k b
theorem EK.inj {h : Heap} {e : Int × Value} {k k' : List Int} (a : EK prog w h e k) (b : EK prog w h e k') : k = k' := by
  obtain ⟨x, rfl, h1⟩ := a
  obtain ⟨y, e2, h2⟩ := b
  cases (congrArg Prod.snd e2)
  exact h1.inj h2
variable {A : Around} {E : Value → Shared → Prop} {s : Shared}
theorem items_ints {ks : List Int} {vs : List Value} (h : ItemsAre (PySem.intKind prog w) ks vs) : ∀ v ∈ vs, ∃ n t, v = .int n t := by
  induction h with
  | nil => intro v hv; cases hv
  | cons h1 _ ih =>
    intro v hv
    rcases List.mem_cons.mp hv with rfl | hv
    · obtain ⟨t, rfl⟩ := Value.isInt_shape h1
      exact ⟨_, t, rfl⟩
    · exact ih v hv
theorem wp_class {k : List Int} {x : Addr} {Q : Bool → Shared → Prop} (hx : TK prog w s.heap k x) (h : Q false s) : wpAny (model prog w) A (ofAClassStatement 8 (.ref x)) Q E s := by
  have hT := hx.typeIs
  obtain ⟨o, items, n, ho, _, hd, hi⟩ := hx
  unfold ofAClassStatement
  refine wpAny_bind (wpAny_typeOf hT ?_)
  dsimp only
  rw [if_pos (by rfl)]
  refine wpAny_bind (wpAny_pure ?_)
  simp only [Bool.not_true, Bool.false_eq_true, if_false]
  refine wpAny_bind (wpAny_seqItems ho hd ?_)
  refine wpAny_bind ?_
  show wpAny _ _ (forIn items _ _) _ _ s
  rw [← Array.forIn_toList]
  refine wpAny_forIn_list _ (fun rest r s' => r.1 = none ∧ s' = s ∧ ∀ v ∈ rest, ∃ n t, v = Value.int n t) _ ?_ ?_ _ _ ⟨rfl, rfl, items_ints hi⟩
  · rintro v rest r s' ⟨hr, rfl, hall⟩
    obtain ⟨m, t, rfl⟩ := hall v List.mem_cons_self
    refine wpAny_bind (wpAny_of_eq (a := false) (by unfold ofAClassStatement; rfl) ?_)
    simp only [Bool.false_eq_true, if_false]
    exact wpAny_pure ⟨rfl, rfl, fun u hu' => hall u (List.mem_cons_of_mem _ hu')⟩
  · rintro ⟨r1, r2⟩ s' ⟨hr, rfl, _⟩
    simp only at hr
    subst hr
    exact wpAny_pure h
theorem wp_byValue {k : List Int} {x : Addr} {Q : Bool → Shared → Prop} (hx : TK prog w s.heap k x) (h : Q true s) : wpAny (model prog w) A (hashByValue 8 (.ref x)) Q E s := by
  have hT := hx.typeIs
  obtain ⟨o, items, n, ho, _, hd, hi⟩ := hx
  unfold hashByValue
  refine wpAny_bind (wpAny_specialOf hT F.slot_tuple_hash.lookup ?_)
  show wpAny _ _ (seqItems? (.ref x) >>= _) _ _ s
  refine wpAny_bind (wpAny_seqItems ho hd ?_)
  refine wpAny_bind ?_
  show wpAny _ _ (forIn items _ _) _ _ s
  rw [← Array.forIn_toList]
  refine wpAny_forIn_list _ (fun rest r s' => r.1 = none ∧ s' = s ∧ ∀ v ∈ rest, ∃ n t, v = Value.int n t) _ ?_ ?_ _ _ ⟨rfl, rfl, items_ints hi⟩
  · rintro v rest r s' ⟨hr, rfl, hall⟩
    obtain ⟨m, t, rfl⟩ := hall v List.mem_cons_self
    refine wpAny_bind (wpAny_of_eq (a := true) (by unfold hashByValue; rfl) ?_)
    simp only [Bool.not_true, Bool.false_eq_true, if_false]
    exact wpAny_pure ⟨rfl, rfl, fun u hu' => hall u (List.mem_cons_of_mem _ hu')⟩
  · rintro ⟨r1, r2⟩ s' ⟨hr, rfl, _⟩
    simp only at hr
    subst hr
    exact wpAny_pure h
theorem wp_seen {k : List Int} {x : Addr} {l : List Value} {Q : Bool → Shared → Prop} (hx : TK prog w s.heap k x) (hl : ∀ v ∈ l, ∃ b k', v = .ref b ∧ TK prog w s.heap k' b) (h : Q false s) : wpAny (model prog w) A (searchCouldBeSeen (.ref x) l) Q E s := by
  unfold searchCouldBeSeen
  refine wpAny_bind ?_
  refine wpAny_forIn_list _ (fun rest r s' => r.1 = none ∧ s' = s ∧ ∀ v ∈ rest, ∃ b k', v = .ref b ∧ TK prog w s.heap k' b) _ ?_ ?_ _ _ ⟨rfl, rfl, hl⟩
  · rintro v rest r s' ⟨hr, rfl, hall⟩
    obtain ⟨b, k', rfl, hb⟩ := hall v List.mem_cons_self
    have hrest : ∀ u ∈ rest, ∃ b k', u = .ref b ∧ TK prog w s'.heap k' b := fun u hu' => hall u (List.mem_cons_of_mem _ hu')
    dsimp only
    by_cases c : (x == b || (carriedByValue (Value.ref x) && carriedByValue (Value.ref b))) = true
    · rw [if_pos c]
      exact wpAny_pure ⟨rfl, rfl, hrest⟩
    · rw [if_neg c]
      refine wpAny_bind (wpAny_eqIsQuiet_tuple hx ?_)
      simp only [Bool.not_true, Bool.false_eq_true, if_false]
      refine wpAny_bind (wpAny_eqIsQuiet_tuple hb ?_)
      simp only [Bool.not_true, Bool.false_eq_true, if_false]
      refine wpAny_bind (wp_class hx ?_)
      simp only [Bool.false_eq_true, if_false]
      refine wpAny_bind (wp_class hb ?_)
      simp only [Bool.false_eq_true, if_false]
      exact wpAny_pure ⟨rfl, rfl, hrest⟩
  · rintro ⟨r1, r2⟩ s' ⟨hr, rfl, _⟩
    simp only at hr
    subst hr
    exact wpAny_pure h
end
end ST


set_option Elab.async false
set_option linter.all false
set_option maxRecDepth 100000
set_option maxHeartbeats 1600000
namespace ST
open PySem PySem.SetTable
section
variable {prog : Program} {w : World} {A : Around} {E : Value → Shared → Prop} {s : Shared}
theorem gave_no {t : SetTable} (h : Mk t.mask) : t.gaveWay = false := by
  unfold SetTable.gaveWay
  rcases h with h | h | h <;> rw [h] <;> rfl
theorem wp_search {a : Addr} {o : Obj} {es : Array (Int × Value)} {ep : Nat} {t : SetTable} {x : Addr} {k : List Int} {j : Nat} {Q : SetFound → Shared → Prop} (hu : A.units < cLine) (ho : s.heap.get? a = some o) (hd : o.data = .set es ep t) (T : TB es t) (hf : t.fits es.size = true)
    (hes : ∀ (i : Nat) (e : Int × Value), es[i]? = some e → ∃ k, EK prog w s.heap e k) (hx : TK prog w s.heap k x)
    (hj : ¬ Occ t.place j ∨ ∃ i e, es[i]? = some e ∧ t.place.getD i 0 = j ∧ EK prog w s.heap e k)
    (h1 : (∃ (i : Nat) (e : Int × Value), es[i]? = some e ∧ EK prog w s.heap e k) → Q (.there none) s) (h2 : ¬ Occ t.place j → Q (.free j false) s) :
    ∀ (n fuel : Nat) (p : Probe) (st : Option Probe), st.getD (t.probeStart (hK prog w k)) = p → Way t.mask (Occ t.place) p n j → n < fuel → n < B t.mask → p.dummy = none → wpAny (model prog w) A (setSearchFrom a (.ref x) (hK prog w k) true fuel st) Q E s := by
  intro n
  induction n using Nat.strongRecOn with
  | ind n ih =>
  intro fuel p st hst W hfu hB hdm
  obtain ⟨fuel, rfl⟩ : ∃ f, fuel = f + 1 := ⟨fuel - 1, by omega⟩
  unfold setSearchFrom
  refine wpAny_bind (wpAny_setState_of ho hd hf ?_)
  dsimp only
  rw [gave_no T.mask]
  simp only [Bool.false_eq_true, if_false]
  rw [hst]
  have hjh : ∀ i, i < t.place.size → t.place.getD i 0 = j → (fun i => (es[i]?.map (·.1)).getD 0) i = hK prog w k := fun i hi ei => by
    rcases hj with hj | ⟨i', e, h3, h4, b, rfl, _⟩
    · exact absurd ⟨i, hi, ei⟩ hj
    · have hi' : i' < t.place.size := by rw [T.sz]; exact (Array.getElem?_eq_some_iff.mp h3).1
      have : i = i' := by
        have e1 := below_at T.up hi
        have e2 := below_at T.up hi'
        rw [ei] at e1
        rw [h4] at e2
        exact e1.symm.trans e2
      subst this
      show (es[i]?.map (·.1)).getD 0 = _
      rw [h3]
      rfl
  have G := go_way T (hashAt := fun i => (es[i]?.map (·.1)).getD 0) (h := hK prog w k) n (B t.mask) p j W hB hdm hjh
  generalize hg : t.probe _ (hK prog w k) p = g
  rcases G with ⟨g1, g2⟩ | ⟨i, next, g1, g2, g3, g4⟩
  · have e : g = some (.empty j none) := hg.symm.trans g2
    rw [e]
    dsimp only
    exact wpAny_pure (h2 g1)
  · have e : g = some (.candidate (t.place.getD i 0) i next) := hg.symm.trans g3
    rw [e]
    dsimp only
    have hi : i < es.size := by rw [← T.sz]; exact g1
    have hei : es[i]? = some es[i] := Array.getElem?_eq_getElem hi
    obtain ⟨k', b, hek, hb⟩ := hes i _ hei
    have rest : wpAny (model prog w) A (do
        let some (_, y) := es[i]? | unsupported "internal:set-entry"
        let equal ← holding [y] (eqBool y (.ref x))
        let (es', _, t') ← setState a
        if true && equal then return SetFound.there none
        let some same := t'.sameMemory t.moves t.mask | unsupported "set.changed-during-lookup:is-the-new-block-at-the-old-address"
        let still ← match (if same then t'.slot (t.place.getD i 0) else .empty) with
          | .live i' => match es'[i']? with
            | some (_, y') => do pure (if ← isSame y' y then some i' else none)
            | none => pure none
          | _ => pure none
        match still with
        | none => rule "set.search.anew"; setSearchFrom a (.ref x) (hK prog w k) true fuel none
        | some i' => if equal then return SetFound.there (some i') else setSearchFrom a (.ref x) (hK prog w k) true fuel (some next)) Q E s := by
      rw [hei, hek]
      dsimp only
      refine wpAny_bind (wpAny_holding (wpAny_eqBool_tuple hu hb hx ?_))
      refine wpAny_bind (wpAny_setState_of ho hd hf ?_)
      dsimp only
      by_cases c : k' = k
      · rw [decide_eq_true c]
        simp only [Bool.and_self, if_true]
        subst c
        exact wpAny_pure (h1 ⟨i, _, hei, b, hek, hb⟩)
      · rw [decide_eq_false c]
        simp only [Bool.and_false, Bool.false_eq_true, if_false]
        have hsm : t.sameMemory t.moves t.mask = some true := by unfold SetTable.sameMemory; rw [if_pos (by simp)]
        rw [hsm]
        dsimp only
        rw [if_pos rfl, slot_live T.up g1]
        dsimp only
        rw [hei, hek]
        dsimp only
        refine wpAny_bind (wpAny_isSame_ref_self (wpAny_bind (wpAny_pure ?_)))
        simp only [if_true]
        rcases g4 with g4 | ⟨n', b1, b2, b3⟩
        · exfalso
          rcases hj with hj | ⟨i', e, h3, h4, h5⟩
          · exact hj ⟨i, g1, g4⟩
          · have hi' : i' < t.place.size := by rw [T.sz]; exact (Array.getElem?_eq_some_iff.mp h3).1
            have : i = i' := by
              have e1 := below_at T.up g1
              have e2 := below_at T.up hi'
              rw [g4] at e1
              rw [h4] at e2
              exact e1.symm.trans e2
            subst this
            rw [hei] at h3
            cases h3
            exact c (EK.inj ⟨b, hek, hb⟩ h5)
        · exact ih n' b1 fuel next (some next) rfl b2 (by omega) (by omega) b3
    by_cases l : (!t.led) = true
    · rw [if_pos l]
      refine wpAny_bind (wp_seen hx (fun v hv => ?_) ?_)
      · obtain ⟨e, he, rfl⟩ := List.mem_map.mp hv
        have he := (Array.mem_filter.mp (Array.mem_toList_iff.mp he)).1
        obtain ⟨m, hm, em⟩ := Array.mem_iff_getElem.mp he
        obtain ⟨k2, b2, q1, q2⟩ := hes m e (by rw [Array.getElem?_eq_getElem hm, em])
        exact ⟨b2, k2, by rw [q1], q2⟩
      · simp only [Bool.false_eq_true, if_false]
        exact rest
    · rw [if_neg l]
      exact rest
end
end ST


set_option Elab.async false
set_option linter.all false
set_option maxRecDepth 100000
set_option maxHeartbeats 1600000
namespace ST
open PySem PySem.SetTable
section
variable {prog : Program} {w : World} {R : Int × Value → Prop} {A : Around} {E : Value → Shared → Prop} {s : Shared}
/-- entries, no two of one key -/
structure Ents (prog : Program) (w : World) (R : Int × Value → Prop) (h : Heap) (es : List (Int × Value)) (S : List Int → Prop) : Prop where
  all : ∀ e ∈ es, R e
  key : ∀ e ∈ es, ∃ k, EK prog w h e k
  two : es.Pairwise fun e e' => ∀ k k', EK prog w h e k → EK prog w h e' k' → k ≠ k'
  mem : ∀ k, S k ↔ ∃ e ∈ es, EK prog w h e k
def SetT (prog : Program) (w : World) (R : Int × Value → Prop) (led : Bool) (h : Heap) (a : Addr) (S : List Int → Prop) (m : Nat) : Prop :=
  ∃ o es ep t, h.get? a = some o ∧ o.ExactSet ∧ o.data = .set es ep t ∧ TB es t ∧ Room es t ∧ t.led = led ∧ t.plain = true ∧ Ents prog w R h es.toList S ∧ es.size ≤ m
theorem TK.keep {h h' : Heap} {a b : Addr} {o : Obj} {es : Array (Int × Value)} {ep : Nat} {t : SetTable} {k : List Int} (ho : h.get? a = some o) (hd : o.data = .set es ep t) (hs : Heap.SameBut a h h') (x : TK prog w h k b) : TK prog w h' k b := by
  obtain ⟨o', items, n, ho', hc, hd', hi⟩ := x
  have hne : b ≠ a := by
    rintro rfl
    obtain rfl : o' = o := Option.some.inj (ho'.symm.trans ho)
    rw [hd] at hd'
    cases hd'
  exact ⟨o', items, n, (hs.2 b hne).trans ho', hc, hd', hi⟩
theorem Ents.move {h h' : Heap} {es : List (Int × Value)} {S : List Int → Prop} (x : Ents prog w R h es S) (k : ∀ e k, R e → EK prog w h e k → EK prog w h' e k) : Ents prog w R h' es S := by
  have back : ∀ e ∈ es, ∀ j, EK prog w h' e j → EK prog w h e j := fun e he j hj => by
    obtain ⟨j0, h0⟩ := x.key e he
    have := EK.inj (k e j0 (x.all e he) h0) hj
    subst this
    exact h0
  refine ⟨x.all, fun e he => ?_, ?_, fun j => ?_⟩
  · obtain ⟨j, hj⟩ := x.key e he
    exact ⟨j, k e j (x.all e he) hj⟩
  · refine List.Pairwise.imp_of_mem ?_ x.two
    intro e e' he he' q j j' hj hj'
    exact q j j' (back e he j hj) (back e' he' j' hj')
  · rw [x.mem]
    exact ⟨fun ⟨e, he, hj⟩ => ⟨e, he, k e j (x.all e he) hj⟩, fun ⟨e, he, hj⟩ => ⟨e, he, back e he j hj⟩⟩
theorem Ents.perm {h : Heap} {es es' : List (Int × Value)} {S : List Int → Prop} (x : Ents prog w R h es S) (p : es'.Perm es) : Ents prog w R h es' S := by
  refine ⟨fun e he => x.all e (p.mem_iff.mp he), fun e he => x.key e (p.mem_iff.mp he), ?_, fun j => ?_⟩
  · exact (p.pairwise_iff (fun {a b} q k k' hk hk' e => q k' k hk' hk e.symm)).mpr x.two
  · rw [x.mem]
    exact ⟨fun ⟨e, he, hj⟩ => ⟨e, p.mem_iff.mpr he, hj⟩, fun ⟨e, he, hj⟩ => ⟨e, p.mem_iff.mp he, hj⟩⟩
theorem Ents.add {h : Heap} {es : List (Int × Value)} {S : List Int → Prop} {k : List Int} {b : Addr} (x : Ents prog w R h es S) (hb : TK prog w h k b) (hR : R (hK prog w k, .ref b)) (hn : ¬ S k) : Ents prog w R h (es ++ [(hK prog w k, .ref b)]) (fun j => S j ∨ j = k) := by
  have hk : EK prog w h (hK prog w k, .ref b) k := ⟨b, rfl, hb⟩
  refine ⟨fun e he => ?_, fun e he => ?_, ?_, fun j => ?_⟩
  · rcases List.mem_append.mp he with z | z
    · exact x.all e z
    · rw [List.mem_singleton.mp z]; exact hR
  · rcases List.mem_append.mp he with z | z
    · exact x.key e z
    · rw [List.mem_singleton.mp z]; exact ⟨k, hk⟩
  · rw [List.pairwise_append]
    refine ⟨x.two, List.pairwise_singleton _ _, fun e he e' he' j j' hj hj' z => ?_⟩
    rw [List.mem_singleton.mp he'] at hj'
    have := EK.inj hk hj'
    subst this
    subst z
    exact hn ((x.mem _).mpr ⟨e, he, hj⟩)
  · rw [x.mem]
    constructor
    · rintro (⟨e, he, hj⟩ | rfl)
      · exact ⟨e, List.mem_append_left _ he, hj⟩
      · exact ⟨_, List.mem_append_right _ (List.mem_singleton.mpr rfl), hk⟩
    · rintro ⟨e, he, hj⟩
      rcases List.mem_append.mp he with z | z
      · exact .inl ⟨e, z, hj⟩
      · rw [List.mem_singleton.mp z] at hj
        exact .inr (EK.inj hj hk)
theorem TB.fits {es : Array (Int × Value)} {t : SetTable} (T : TB es t) (h : es.size ≤ t.mask) : t.fits es.size = true := by
  unfold SetTable.fits SetTable.fill
  rw [T.sz, T.dm]
  simp [h]
theorem Room.le {es : Array (Int × Value)} {t : SetTable} (h : Room es t) : es.size < t.mask := by unfold Room at h; omega
theorem wp_add {led : Bool} {a x : Addr} {k : List Int} {S : List Int → Prop} {m : Nat} {Q : Bool → Shared → Prop} (hu : A.units < cLine) (hS : SetT prog w R led s.heap a S m) (hm : m < 64) (hx : TK prog w s.heap k x) (hR : R (hK prog w k, .ref x))
    (h : ∀ b h', Heap.SameBut a s.heap h' → SetT prog w R led h' a (fun j => S j ∨ j = k) (m + 1) → Q b { s with heap := h' }) : wpAny (model prog w) A (setAddHashed a (.ref x) (hK prog w k)) Q E s := by
  obtain ⟨o, es, ep, t, ho, hex, hd, T, Rm, hl, hp, en, hz⟩ := hS
  have hle := Rm.le
  have hf := T.fits (Nat.le_of_lt hle)
  have hes : ∀ (i : Nat) (e : Int × Value), es[i]? = some e → ∃ k, EK prog w s.heap e k := fun i e he => en.key e (by rw [Array.mem_toList_iff]; exact Array.mem_of_getElem? he)
  unfold setAddHashed setAddHashedIn
  refine wpAny_holding (wpAny_bind (wpAny_setState_of ho hd hf ?_))
  dsimp only
  have hsc : byScan (.ref x) es = false := rfl
  rw [hsc]
  simp only [Bool.false_eq_true, if_false]
  unfold setSearch
  by_cases c : S k
  · obtain ⟨e, he, hk⟩ := (en.mem k).mp c
    obtain ⟨i, hi, ei⟩ := Array.mem_iff_getElem.mp (Array.mem_toList_iff.mp he)
    have hie : es[i]? = some e := by rw [Array.getElem?_eq_getElem hi, ei]
    obtain ⟨n, hn, W⟩ := T.way i e hie
    have e1 : e.1 = hK prog w k := by obtain ⟨b, rfl, _⟩ := hk; rfl
    rw [e1] at W
    have hB : B t.mask < 100000 := by
      show 10 * (t.mask + 15) < 100000
      rcases T.mask with z | z | z <;> omega
    have hi' : i < t.place.size := by rw [T.sz]; exact hi
    refine wpAny_bind (wp_search hu ho hd T hf hes hx (j := t.place.getD i 0) (.inr ⟨i, e, hie, rfl, hk⟩) (fun _ => ?_) (fun z => absurd ⟨i, hi', rfl⟩ z) n 100000 (t.probeStart (hK prog w k)) none rfl W (by omega) hn rfl)
    dsimp only
    refine wpAny_pure ?_
    have es' : s = { s with heap := s.heap } := by cases s; rfl
    rw [es']
    refine h false s.heap (Heap.SameBut.refl a s.heap) ⟨o, es, ep, t, ho, hex, hd, T, Rm, hl, hp, ⟨en.all, en.key, en.two, fun j => ?_⟩, by omega⟩
    rw [← en.mem]
    exact ⟨fun z => z.elim id fun z => z ▸ c, .inl⟩
  · obtain ⟨n, j, hn, W, hj, hjm⟩ := T.free Rm (hK prog w k)
    have hB : B t.mask < 100000 := by
      show 10 * (t.mask + 15) < 100000
      rcases T.mask with z | z | z <;> omega
    refine wpAny_bind (wp_search hu ho hd T hf hes hx (j := j) (.inl hj) (fun ⟨i, e, he, hk⟩ => absurd ((en.mem k).mpr ⟨e, by rw [Array.mem_toList_iff]; exact Array.mem_of_getElem? he, hk⟩) c) (fun _ => ?_) n 100000 (t.probeStart (hK prog w k)) none rfl W (by omega) hn rfl)
    dsimp only
    refine wpAny_bind (wpAny_setState_of ho hd hf ?_)
    dsimp only
    have T1 := T.put (h := hK prog w k) (x := .ref x) hn W hj hjm
    have pm1 := SetTable.insertAt_perm es (t.put j).2 (hK prog w k, Value.ref x)
    have em : (t.put j).1.mask = t.mask := by rw [put_eq T.dm]
    have el : (t.put j).1.led = t.led := by rw [put_eq T.dm]
    have ep' : (t.put j).1.plain = t.plain := by rw [put_eq T.dm]
    have sz1 : (insertAt es (t.put j).2 (hK prog w k, Value.ref x)).size = es.size + 1 := ins_size
    generalize (t.put j) = u at T1 pm1 em el ep' sz1 ⊢
    obtain ⟨t1, p1⟩ := u
    dsimp only at T1 pm1 em el ep' sz1 ⊢
    generalize insertAt es p1 (hK prog w k, Value.ref x) = es1 at T1 pm1 sz1 ⊢
    rw [ep', hp, if_pos rfl]
    refine wpAny_bind (wp_byValue hx ?_)
    rw [if_pos rfl]
    have hfit1 : es1.size ≤ sizeLine := by rw [sizeLine_eq]; omega
    refine wpAny_bind (wpAny_storeSet_of ho hd ?_ hfit1)
    have hg : (s.heap.update a (Obj.putSet es1 t1)).get? a = some { o with data := .set es1 (ep + 1) t1 } := by
      have := Heap.get?_update_self (Obj.putSet es1 t1) ho (by rw [putSet_of es1 t1 hd]; rfl)
      rw [putSet_of es1 t1 hd] at this
      exact this
    have sb1 := Heap.SameBut.update s.heap a (Obj.putSet es1 t1)
    rw [Array.toList_push] at pm1
    have en1 : Ents prog w R (s.heap.update a (Obj.putSet es1 t1)) es1.toList (fun j => S j ∨ j = k) :=
      ((en.add hx hR c).perm pm1).move fun e k' _ ⟨b, q1, q2⟩ => ⟨b, q1, TK.keep ho hd sb1 q2⟩
    have hf1 := T1.fits (by omega)
    by_cases tf : t1.tooFull = true
    · rw [if_pos (by simp [tf])]
      have tf' : t1.mask * 3 ≤ es1.size * 5 := by
        unfold SetTable.tooFull SetTable.fill at tf
        rw [T1.sz, T1.dm] at tf
        simpa using tf
      have R' : es.size * 5 < t.mask * 3 := Rm
      unfold setRelay
      refine wpAny_bind (wpAny_bind (wpAny_setState_of hg rfl hf1 ?_))
      dsimp only
      have nums : Mk (sizeAbove (grown (es.size + 1)) - 1) ∧ es1.size * 5 < (sizeAbove (grown (es.size + 1)) - 1) * 3 ∧ ¬ sizeAbove (grown (es.size + 1)) > sizeLine := by
        rcases T.mask with z | z | z
        · have : es.size = 4 := by omega
          rw [sz1, this]
          exact ⟨.inr (.inl (by decide)), by decide, by rw [sizeLine_eq]; decide⟩
        · have : es.size = 18 := by omega
          rw [sz1, this]
          exact ⟨.inr (.inr (by decide)), by decide, by rw [sizeLine_eq]; decide⟩
        · omega
      obtain ⟨n1, n2, n3⟩ := nums
      rw [if_neg n3]
      obtain ⟨t2, order, r1, r2, r3, r4, r5, r6, T2⟩ := relaid_ok (es := es1) (t := t1) n1 (by omega)
      rw [r1]
      have hfit2 : (order.filterMap (es1[·]?)).size ≤ sizeLine := by rw [r5]; exact hfit1
      have hne : ((order.filterMap (es1[·]?)).size != es1.size) = false := by rw [r5]; simp
      have hre : wpAny (model prog w) A (do
          let some (t, order) := some (t2, order) | unsupported "internal:set-table-without-room"
          let es' := order.filterMap (es1[·]?)
          if es'.size != es1.size then unsupported "internal:set-table-lost-an-element"
          pure (es', t)) (fun r s' => r = (order.filterMap (es1[·]?), t2) ∧ s' = { s with heap := s.heap.update a (Obj.putSet es1 t1) }) E { s with heap := s.heap.update a (Obj.putSet es1 t1) } := by
        dsimp only
        rw [hne]
        simp only [Bool.false_eq_true, if_false]
        exact wpAny_pure ⟨rfl, rfl⟩
      refine wpAny_bind (wpAny_mono hre (fun r s' hr => ?_) fun _ _ z => z)
      obtain ⟨rfl, rfl⟩ := hr
      dsimp only
      refine wpAny_storeSet_of hg rfl ?_ hfit2
      refine wpAny_pure ?_
      have sb2 := Heap.SameBut.update (s.heap.update a (Obj.putSet es1 t1)) a (Obj.putSet (order.filterMap (es1[·]?)) t2)
      refine h true _ (sb1.trans sb2) ⟨{ o with data := .set (order.filterMap (es1[·]?)) (ep + 1 + 1) t2 }, _, ep + 1 + 1, t2, ?_, hex, rfl, T2, ?_, ?_, ?_, ?_, ?_⟩
      · have := Heap.get?_update_self (Obj.putSet (order.filterMap (es1[·]?)) t2) hg (by rw [putSet_of _ t2 rfl]; rfl)
        rw [putSet_of _ t2 rfl] at this
        exact this
      · show (order.filterMap (es1[·]?)).size * 5 < t2.mask * 3
        rw [r5, r2]
        exact n2
      · rw [r3, el]; exact hl
      · rw [r4, ep']; exact hp
      · exact (en1.perm r6).move fun e k' _ ⟨b, q1, q2⟩ => ⟨b, q1, TK.keep hg rfl sb2 q2⟩
      · rw [r5]; omega
    · rw [if_neg (by simp [tf])]
      refine wpAny_bind (wpAny_pure (wpAny_pure ?_))
      refine h true _ sb1 ⟨_, es1, ep + 1, t1, hg, hex, rfl, T1, ?_, el.trans hl, ep'.trans hp, en1, by omega⟩
      show es1.size * 5 < t1.mask * 3
      unfold SetTable.tooFull SetTable.fill at tf
      rw [T1.sz, T1.dm] at tf
      simpa using tf
end
end ST


set_option Elab.async false
set_option linter.all false
set_option maxRecDepth 100000
set_option maxHeartbeats 1600000
namespace ST
open PySem PySem.SetTable
/-! ### a set walked through -/
theorem slot_si_next : Slot "set_iterator" "__next__" "set_iterator.__next__" :=
  .of (owner := "set_iterator") (n := "__next__") (by rw [typeLookup_type, builtinLookup_eq_fast]; kernel_rfl) (by decide +kernel) (by decide +kernel) (by decide +kernel)
    (by first | exact .inl (by decide +kernel) | exact .inr (by decide +kernel)) (by rw [isSubtype_type]; kernel_rfl)
theorem slot_si_iter : Slot "set_iterator" "__iter__" "set_iterator.__iter__" :=
  .of (owner := "set_iterator") (n := "__iter__") (by rw [typeLookup_type, builtinLookup_eq_fast]; kernel_rfl) (by decide +kernel) (by decide +kernel) (by decide +kernel)
    (by first | exact .inl (by decide +kernel) | exact .inr (by decide +kernel)) (by rw [isSubtype_type]; kernel_rfl)
theorem owner_si : Manifest.owners.lookup (String.ofList ['r', 'o', 't', 'a', 'r', 'e', 't', 'i', '_', 't', 'e', 's'].reverse) = some Manifest.sig_set_iterator := by kernel_rfl
theorem entry_si_next : entryFor table "set_iterator.__next__" = some Builtin.«set_iterator.__next__» := entryFor_of_tree (by kernel_rfl)
theorem args_si_next (a : Value) : argsOk "set_iterator.__next__" ⟨[a], []⟩ := by
  unfold argsOk; rw [signature?_of (id := "set_iterator.__next__") (n := ['_', '_', 't', 'x', 'e', 'n', '_', '_']) (o := ['r', 'o', 't', 'a', 'r', 'e', 't', 'i', '_', 't', 'e', 's']) (by kernel_rfl) owner_si]; kernel_rfl
theorem entry_si_iter : entryFor table "set_iterator.__iter__" = some Builtin.«dict_keyiterator.__iter__» :=
  entryFor_alias (id' := "dict_keyiterator.__iter__") (by kernel_rfl) rfl (by decide +kernel) (by kernel_rfl)
theorem args_si_iter (a : Value) : argsOk "set_iterator.__iter__" ⟨[a], []⟩ := by
  unfold argsOk; rw [signature?_of (id := "set_iterator.__iter__") (n := ['_', '_', 'r', 'e', 't', 'i', '_', '_']) (o := ['r', 'o', 't', 'a', 'r', 'e', 't', 'i', '_', 't', 'e', 's']) (by kernel_rfl) owner_si]; kernel_rfl
theorem entry_set_iter : entryFor table "set.__iter__" = some Builtin.«frozenset.__iter__» :=
  entryFor_alias (id' := "frozenset.__iter__") (by kernel_rfl) rfl (by decide +kernel) (by kernel_rfl)
/-- the order in which the text's own dice walk a set -/
theorem pick_go {α : Type} (next : Nat → Nat) : ∀ (fuel k : Nat) (left : List α) (out : Array α), left.length ≤ fuel → (pickOrder.go next fuel k left out).toList.Perm (out.toList ++ left)
  | 0, k, left, out, h => by
    have : left = [] := List.length_eq_zero_iff.mp (by omega)
    subst this
    show out.toList.Perm _
    rw [List.append_nil]
  | fuel + 1, k, left, out, h => by
    unfold pickOrder.go
    cases e : left[next k % left.length]? with
    | none =>
      have hz : left.length = 0 := by
        have := List.getElem?_eq_none_iff.mp e
        rcases Nat.eq_zero_or_pos left.length with z | z
        · exact z
        · have := Nat.mod_lt (next k) z
          omega
      rw [List.length_eq_zero_iff.mp hz, List.append_nil]
    | some x =>
      dsimp only
      obtain ⟨hi, ex⟩ := List.getElem?_eq_some_iff.mp e
      have ih := pick_go next fuel (k + 1) (left.eraseIdx (next k % left.length)) (out.push x) (by rw [List.length_eraseIdx_of_lt hi]; omega)
      refine ih.trans ?_
      rw [Array.toList_push, List.append_assoc]
      refine List.Perm.append_left _ ?_
      rw [List.eraseIdx_eq_take_drop_succ]
      have e2 : left = left.take (next k % left.length) ++ x :: left.drop (next k % left.length + 1) := by
        rw [← ex, ← List.drop_eq_getElem_cons hi, List.take_append_drop]
      generalize next k % left.length = m at e2 ⊢
      conv => rhs; rw [e2]
      show (x :: (List.take m left ++ List.drop (m + 1) left)).Perm _
      exact List.perm_middle.symm
theorem pick_perm {α : Type} (next : Nat → Nat) (xs : Array α) : (pickOrder next xs).toList.Perm xs.toList := by
  have := pick_go next xs.size 0 xs.toList #[] (by simp)
  unfold pickOrder
  simpa using this
section
variable {prog : Program} {w : World} {A : Around} {E : Value → Shared → Prop} {s : Shared}
def byT (w : World) : Bool := w.params.followText "set-order"
theorem wp_byText {Q : Bool → Shared → Prop} (h : Q (byT w) s) : wpAny (model prog w) A setsByText Q E s := by
  unfold setsByText
  exact wpAny_bind (wpAny_askSetting (wpAny_pure h))
/-- the entries in the order of a walk -/
def walkOf (w : World) (a ep : Nat) (es : Array (Int × Value)) : Array (Int × Value) := if byT w then pickOrder (w.params.setOrder a ep) es else es
theorem walk_perm {a ep : Nat} {es : Array (Int × Value)} : (walkOf w a ep es).toList.Perm es.toList := by
  unfold walkOf
  split
  · exact pick_perm _ _
  · exact .rfl
structure SIter (w : World) (h : Heap) (it d : Addr) (i ep : Nat) (es : Array (Int × Value)) (t : SetTable) : Prop where
  obj : ∃ (o : Obj) (slot : Nat), h.get? it = some o ∧ o.cls = .type "set_iterator" ∧ o.data = .fields #[.int slot 0, .int i 0, .ref d, .int es.size 0, .int ep 0] ∧ (byT w = false → below t.place slot = i)
theorem SIter.typeIs {it d : Addr} {i ep : Nat} {es : Array (Int × Value)} {t : SetTable} (x : SIter w s.heap it d i ep es t) : s.TypeIs (.ref it) "set_iterator" := by
  obtain ⟨o, sl, ho, hc, _⟩ := x.obj
  exact ⟨o, ho, hc⟩
structure SetAt (w : World) (h : Heap) (d : Addr) (ep : Nat) (es : Array (Int × Value)) (t : SetTable) : Prop where
  obj : ∃ o, h.get? d = some o ∧ o.ExactSet ∧ o.data = .set es ep t
  tb : TB es t
  fit : t.fits es.size = true
  led : t.led = !byT w
  pl : t.plain = true
theorem SetAt.keep {h h' : Heap} {d ep : Nat} {es : Array (Int × Value)} {t : SetTable} (x : SetAt w h d ep es t) (k : ∀ o, h.get? d = some o → h'.get? d = some o) : SetAt w h' d ep es t := by
  obtain ⟨o, ho, r⟩ := x.obj
  exact ⟨⟨o, k o ho, r⟩, x.tb, x.fit, x.led, x.pl⟩
theorem SIter.keep {h h' : Heap} {it d i ep : Nat} {es : Array (Int × Value)} {t : SetTable} (x : SIter w h it d i ep es t) (k : ∀ o, h.get? it = some o → h'.get? it = some o) : SIter w h' it d i ep es t := by
  obtain ⟨o, sl, ho, r⟩ := x.obj
  exact ⟨o, sl, k o ho, r⟩
theorem below_next {xs : Array Nat} (u : Up xs) {i : Nat} (h : i < xs.size) : below xs (xs.getD i 0 + 1) = i + 1 := by
  obtain ⟨h1, h2, h3⟩ := below_spec u (xs.getD i 0 + 1)
  rcases Nat.lt_trichotomy (below xs (xs.getD i 0 + 1)) (i + 1) with c | c | c
  · have := h3 i (by omega) h
    omega
  · exact c
  · have a := h2 (i + 1) c
    have b := u i (i + 1) (by omega) (by omega)
    omega
theorem wp_setNext {d slot i ep : Nat} {es : Array (Int × Value)} {t : SetTable} {Q : Option (Value × Nat) → Shared → Prop} (hs : SetAt w s.heap d ep es t) (hsl : byT w = false → below t.place slot = i)
    (h1 : ∀ e, (walkOf w d ep es)[i]? = some e → ∀ sl, (byT w = false → below t.place sl = i + 1) → Q (some (e.2, sl)) s) (h2 : (walkOf w d ep es)[i]? = none → Q none s) : wpAny (model prog w) A (setNext d slot i ep) Q E s := by
  obtain ⟨o, ho, hex, hd⟩ := hs.obj
  unfold setNext
  refine wpAny_bind (wpAny_setState_of ho hd hs.fit ?_)
  dsimp only
  refine wpAny_bind (wp_byText ?_)
  unfold walkOf at h1 h2
  cases hb : byT w with
  | true =>
    rw [hb] at h1 h2
    simp only [if_true] at h1 h2 ⊢
    rw [if_neg (by simp)]
    unfold setWalk
    refine wpAny_bind (wpAny_bind (wpAny_setState_of ho hd hs.fit ?_))
    dsimp only
    refine wpAny_bind (wp_byText ?_)
    rw [hb]
    simp only [if_true]
    refine wpAny_bind (wpAny_askSetting (wpAny_pure (wpAny_pure ?_)))
    show Q (Option.map (fun e => (e.2, slot)) (pickOrder (w.params.setOrder d ep) es)[i]?) s
    cases hg : (pickOrder (w.params.setOrder d ep) es)[i]? with
    | none => exact h2 hg
    | some e => exact h1 e hg slot fun z => nomatch z
  | false =>
    rw [hb] at h1 h2
    simp only [Bool.false_eq_true, if_false] at h1 h2 ⊢
    have hle : t.led = true := by rw [hs.led, hb]; rfl
    have hdr : (!t.plain && decide (es.size > 1)) = false := by rw [hs.pl]; rfl
    have hml : (!t.led && !es.isEmpty) = false := by rw [hle]; rfl
    show wpAny _ _ (if (!t.plain && decide (es.size > 1)) = true then _ else _) _ _ s
    rw [hdr]
    simp only [Bool.false_eq_true, if_false]
    refine wpAny_bind ?_
    show wpAny _ _ (if (!t.led && !es.isEmpty) = true then _ else _) _ _ s
    rw [hml]
    simp only [Bool.false_eq_true, if_false]
    refine wpAny_pure (wpAny_pure ?_)
    rw [hsl hb]
    by_cases c : i < es.size
    · have c' : i < t.place.size := by rw [hs.tb.sz]; exact c
      rw [Array.getElem?_eq_getElem c, getElem?_getD c']
      exact h1 _ (Array.getElem?_eq_getElem c) _ fun _ => below_next hs.tb.up c'
    · rw [Array.getElem?_eq_none (by omega)]
      exact h2 (Array.getElem?_eq_none (by omega))
theorem walk_size {d ep : Nat} {es : Array (Int × Value)} : (walkOf w d ep es).size = es.size := by
  have := (walk_perm (w := w) (a := d) (ep := ep) (es := es)).length_eq
  simpa using this
theorem wp_next_item {it d i ep : Nat} {es : Array (Int × Value)} {t : SetTable} {e : Int × Value} {Q : Option Value → Shared → Prop} (hit : SIter w s.heap it d i ep es t) (hs : SetAt w s.heap d ep es t) (he : (walkOf w d ep es)[i]? = some e)
    (hQ : ∀ h', SIter w h' it d (i + 1) ep es t → Heap.SameBut it s.heap h' → Q (some e.2) { s with heap := h' }) : wpAny (model prog w) A (pyNext (.ref it)) Q E s := by
  obtain ⟨o, slot, ho, hc, hd, hsl⟩ := id hit.obj
  obtain ⟨od, hod, hex, hdd⟩ := hs.obj
  unfold pyNext
  refine wpAny_bind (wpAny_attempt (wpAny_callSpecial?_slot (name := Str.ofString "__next__") hit.typeIs slot_si_next (wpAny_call_entry slot_si_next hit.typeIs entry_si_next ?_ (args_si_next _))))
  unfold Builtin.«set_iterator.__next__»
  refine wpAny_bind (wpAny_pure ?_)
  refine wpAny_bind (wpAny_fieldsOf ho hd ?_)
  show wpAny _ _ (setEntries d >>= _) _ _ s
  refine wpAny_bind (wpAny_setEntries_of hod hdd hs.fit ?_)
  rw [if_neg (by simp)]
  dsimp only
  rw [show ((slot : Int)).toNat = slot by simp, show ((i : Int)).toNat = i by simp, show ((ep : Int)).toNat = ep by simp]
  refine wpAny_bind (wp_setNext hs hsl (fun e' he' sl hsl' => ?_) (fun hn => by rw [he] at hn; cases hn))
  obtain rfl : e' = e := by rw [he] at he'; exact (Option.some.inj he').symm
  dsimp only
  refine wpAny_bind (wpAny_setField ho hd (by simp) ?_)
  have ho1 : (s.heap.update it (Obj.mapFields (·.setIfInBounds 0 (rawInt sl)))).get? it = some (Obj.mapFields (·.setIfInBounds 0 (rawInt sl)) o) := Heap.get?_update_self _ ho (Obj.isFreed_of_fields (Obj.data_mapFields hd _))
  have hd1 : (Obj.mapFields (·.setIfInBounds 0 (rawInt sl)) o).data = .fields #[.int sl 0, .int i 0, .ref d, .int es.size 0, .int ep 0] := by rw [Obj.data_mapFields hd]; simp [rawInt]
  refine wpAny_bind (wpAny_setField ho1 hd1 (by simp) ?_)
  refine wpAny_pure ⟨_, rfl, wpAny_pure (hQ _ ⟨_, sl, Heap.get?_update_self _ ho1 (Obj.isFreed_of_fields (Obj.data_mapFields hd1 _)), ?_, ?_, hsl'⟩ ((Heap.SameBut.update ..).trans (Heap.SameBut.update ..)))⟩
  · rw [Obj.cls_mapFields, Obj.cls_mapFields]; exact hc
  · rw [Obj.data_mapFields hd1]; simp [rawInt]
theorem wp_next_end {it d i ep : Nat} {es : Array (Int × Value)} {t : SetTable} {Q : Option Value → Shared → Prop} (hh : A.handled = none) (hit : SIter w s.heap it d i ep es t) (hs : SetAt w s.heap d ep es t) (he : (walkOf w d ep es)[i]? = none)
    (hQ : ∀ h', Heap.ExtBut it s.heap h' → Q none { s with heap := h' }) : wpAny (model prog w) A (pyNext (.ref it)) Q E s := by
  obtain ⟨o, slot, ho, hc, hd, hsl⟩ := id hit.obj
  obtain ⟨od, hod, hex, hdd⟩ := hs.obj
  unfold pyNext
  refine wpAny_bind (wpAny_attempt (wpAny_callSpecial?_slot (name := Str.ofString "__next__") hit.typeIs slot_si_next (wpAny_call_entry slot_si_next hit.typeIs entry_si_next ?_ (args_si_next _))))
  unfold Builtin.«set_iterator.__next__»
  refine wpAny_bind (wpAny_pure ?_)
  refine wpAny_bind (wpAny_fieldsOf ho hd ?_)
  show wpAny _ _ (setEntries d >>= _) _ _ s
  refine wpAny_bind (wpAny_setEntries_of hod hdd hs.fit ?_)
  rw [if_neg (by simp)]
  dsimp only
  rw [show ((slot : Int)).toNat = slot by simp, show ((i : Int)).toNat = i by simp, show ((ep : Int)).toNat = ep by simp]
  refine wpAny_bind (wp_setNext hs hsl (fun e' he' sl hsl' => by rw [he] at he'; cases he') (fun _ => ?_))
  dsimp only
  refine wpAny_bind (wpAny_setField ho hd (by simp) ?_)
  refine wpAny_bind ?_
  simp only [newExc, newTuple]
  refine wpAny_bind (wpAny_newObj_type ?_ (by size_fits))
  refine wpAny_bind (m := firstArgMember _ _) (wpAny_of_eq (a := Value.none) (by first | rfl | (simp only [firstArgMember]; rfl)) ?_)
  refine wpAny_newObj_type ?_ (by size_fits)
  simp only [raiseNew]
  refine wpAny_bind (wpAny_handled ?_)
  rw [show A.in1.handled = none from hh]
  refine wpAny_bind (wpAny_pure (wpAny_throw ?_))
  refine wpAny_bind (wpAny_isInstance (T := "StopIteration") (b := true) ⟨_, Heap.get?_push_size _ rfl, rfl⟩ isSubtype_stop ?_)
  exact wpAny_pure (hQ _ (((Heap.SameBut.update ..).extBut.push _).push _))
theorem wp_iter {d ep : Nat} {es : Array (Int × Value)} {t : SetTable} {Q : Value → Shared → Prop} (hs : SetAt w s.heap d ep es t)
    (hQ : Q (.ref s.heap.objs.size) { s with heap := s.heap.push { cls := .type "set_iterator", data := .fields #[.int 0 0, .int 0 0, .ref d, .int es.size 0, .int ep 0] } }) : wpAny (model prog w) A (pyIter (.ref d)) Q E s := by
  obtain ⟨od, hod, hex, hdd⟩ := hs.obj
  have hT : s.TypeIs (.ref d) "set" := ⟨od, hod, hex.1⟩
  refine wpAny_pyIter_slot hT F.slot_set_iter (wpAny_call_entry F.slot_set_iter hT entry_set_iter ?_ (F.args_set_iter_1 _))
  unfold Builtin.«frozenset.__iter__»
  refine wpAny_bind (wpAny_pure ?_)
  dsimp only
  refine wpAny_bind ?_
  unfold Builtin.Frozenset.sizeOf
  refine wpAny_bind (wpAny_setEntries_of hod hdd hs.fit (wpAny_pure ?_))
  refine wpAny_bind ?_
  unfold setDrawn
  refine wpAny_bind (wpAny_setState_of hod hdd hs.fit ?_)
  dsimp only
  refine wpAny_bind (wp_byText (wpAny_pure ?_))
  have hdr : (!byT w && (!t.plain && decide (es.size > 1))) = false := by rw [hs.pl]; simp
  show wpAny _ _ (if (!byT w && (!t.plain && decide (es.size > 1))) = true then _ else _) _ _ s
  rw [hdr]
  simp only [Bool.false_eq_true, if_false]
  refine wpAny_bind (wpAny_pure ?_)
  refine wpAny_bind (wpAny_setEpoch_of hod hdd hs.fit ?_)
  refine wpAny_bind ?_
  unfold newFields
  exact wpAny_newObj_type (wpAny_pure ⟨_, rfl, "set_iterator", _, ⟨_, Heap.get?_push_size _ rfl, rfl⟩, slot_si_next.lookup, hQ⟩)
theorem wp_iter_self {it d i ep : Nat} {es : Array (Int × Value)} {t : SetTable} {Q : Value → Shared → Prop} (hit : SIter w s.heap it d i ep es t) (h : Q (.ref it) s) : wpAny (model prog w) A (pyIter (.ref it)) Q E s := by
  refine wpAny_pyIter_slot hit.typeIs slot_si_iter (wpAny_call_entry slot_si_iter hit.typeIs entry_si_iter ?_ (args_si_iter _))
  show wpAny _ _ (ret (.ref it)) _ _ s
  exact wpAny_pure ⟨_, rfl, "set_iterator", _, hit.typeIs, slot_si_next.lookup, h⟩
theorem walks_set (hh : A.handled = none) (I d : Addr) (hne : d ≠ I) (ep : Nat) (es : Array (Int × Value)) (t : SetTable) :
    Walks prog w A I [I, d] [I] es.size (fun i v => ∃ e, (walkOf w d ep es)[i]? = some e ∧ v = e.2) (fun i h => SIter w h I d i ep es t ∧ SetAt w h d ep es t) where
  sub := fun b hb => by simp at hb; simp [hb]
  frame := fun _ _ _ st hk => ⟨st.1.keep fun o e => hk I (by simp) o e, st.2.keep fun o e => hk d (by simp) o e⟩
  item := fun i s Q E hi st hQ => by
    have he : (walkOf w d ep es)[i]? = some ((walkOf w d ep es)[i]'(by rw [walk_size]; exact hi)) := Array.getElem?_eq_getElem _
    refine wp_next_item st.1 st.2 he fun h' hit' hs' => ?_
    exact hQ _ h' s.toks ⟨_, he, rfl⟩ ⟨hit', st.2.keep fun o e => (hs'.2 d hne).trans e⟩ fun b o hb e => hs'.extBut b o (fun h => hb (by simp [h])) e
  done := fun s Q E st hQ => wp_next_end hh st.1 st.2 (Array.getElem?_eq_none (by rw [walk_size]; exact Nat.le_refl _)) fun h' he' => hQ h' s.toks fun b o hb e => he' b o (fun h => hb (by simp [h])) e
  self := fun _ _ _ _ st hQ => wp_iter_self st.1 hQ
theorem below_zero {xs : Array Nat} (u : Up xs) : below xs 0 = 0 := by
  obtain ⟨h1, h2, h3⟩ := below_spec u 0
  rcases Nat.eq_zero_or_pos (below xs 0) with c | c
  · exact c
  · have := h2 0 c
    omega
theorem src_set (d ep : Nat) (es : Array (Int × Value)) (t : SetTable) : PySem.W.KdlSrc prog w "set" d d es.size (fun i v => ∃ e, (walkOf w d ep es)[i]? = some e ∧ v = e.2) (fun h => SetAt w h d ep es t) where
  type := fun s hm => by obtain ⟨o, ho, hx, _⟩ := hm.obj; exact ⟨o, ho, hx.1⟩
  there := fun _ hm => by obtain ⟨o, ho, _⟩ := hm.obj; exact ⟨Heap.lt_size ho, Heap.lt_size ho⟩
  keep := fun _ _ hm hk => hm.keep fun o e => hk d (.inl rfl) o e
  notList := by decide
  notTuple := by decide
  hint := fun _ _ s Q hm hq => by
    have hT : s.TypeIs (.ref d) "set" := by obtain ⟨o, ho, hx, _⟩ := hm.obj; exact ⟨o, ho, hx.1⟩
    unfold Builtin.List.listLengthHint
    refine wpAny_bind (wpAny_specialOf hT F.slot_set_len.lookup ?_)
    generalize hid : ("set.__len__" : String) = id0
    wp_delta
    rw [show splitId id0 = some ("set", "__len__") from by subst hid; decide +kernel]
    subst hid
    refine wpAny_bind (wpAny_isInstance (T := "set") (b := true) hT (by rw [isSubtype_type]; kernel_rfl) ?_)
    refine wpAny_ite_split (fun hab => absurd hab (by decide)) (fun _ => ?_)
    refine wpAny_ite_split (fun _ => ?_) (fun hab => absurd (by decide +kernel) hab)
    refine wpAny_bind (wpAny_typeOf hT ?_)
    exact wpAny_pure hq
  iter := fun _ s hh hm => by
    obtain ⟨o, ho, _⟩ := id hm.obj
    exact ⟨_, _, (fun _ _ hq => wp_iter hm hq), walks_set hh _ d (Nat.ne_of_lt (Heap.lt_size ho)) ep es t, ⟨⟨_, 0, Heap.get?_push_size _ rfl, rfl, rfl, fun _ => below_zero hm.tb.up⟩, hm.keep fun o e => Heap.get?_push_of_some _ e⟩⟩
end
end ST


set_option Elab.async false
set_option linter.all false
set_option maxRecDepth 100000
set_option maxHeartbeats 3200000
namespace ST
open PySem PySem.SetTable PyProof.Rows PySem.W L2
section
variable {prog : Program} {w : World} {A : Around} {E : Value → Shared → Prop} {s : Shared}
theorem kdl_iadd {T : String} {r d : Addr} {n : Nat} {P : Nat → Value → Prop} {OK : Heap → Prop} {Rg : Result → Shared → Prop} (K : KdlSrc prog w T r d n P OK) (hh : A.handled = none) (hok : OK s.heap) (S : Addr) (hSr : S ≠ r) (hSd : S ≠ d) (hS : s.heap.get? S = some { cls := .type "list", data := .seq #[] 0 })
    (hR : ∀ h' tk acc' c', (∀ b o, b ≠ S → s.heap.get? b = some o → h'.get? b = some o) → h'.get? S = some { cls := .type "list", dict := none, data := .seq acc' c', slots := #[] } → ItemsOf P acc' n → Rg (.ok (.ret (.ref S))) { s with heap := h', toks := tk }) (hn : n ≤ sizeLine) :
    codeAny (model prog w) A (.builtin "list.__iadd__" ⟨[.ref S, .ref r], []⟩) Rg s := by
  refine codeAny_builtin PySem.F.entry_list_iadd ?_
  rw [Around.under_plainId PySem.F.plain_list_iadd _]
  show wpAny _ A.in1 (Builtin.List.listExtendWith (.ref S) (.ref r) (.ref S)) _ _ _
  exact kdl_extend (R := Rg) K hh hok S hSr hSd (.ref S) 0 hS hR hn
theorem kdl_collect {T : String} {r d : Addr} {n : Nat} {P : Nat → Value → Prop} {OK : Heap → Prop} {Q : List Value → Shared → Prop} (K : KdlSrc prog w T r d n P OK) (hh : A.handled = none) (hok : OK s.heap) (hn : n ≤ sizeLine)
    (hQ : ∀ h' tk acc', (∀ b o, s.heap.get? b = some o → h'.get? b = some o) → s.heap.objs.size < h'.objs.size → ItemsOf P acc' n → Q acc'.toList { s with heap := h', toks := tk }) : wpAny (model prog w) A (collect (.ref r)) Q E s := by
  unfold collect
  refine wpAny_bind (wpAny_runValue (codeAny_builtin PySem.F.entry_proto_collect ?_))
  rw [Around.under_plainId PySem.F.plain_proto_collect _]
  show wpAny _ A.in1 (newList [] >>= fun l => again (.builtin "list.__iadd__" ⟨[l, .ref r], []⟩)) _ _ s
  refine wpAny_bind (wpAny_newObj_type ?_)
  have hS₁ : (s.heap.push { cls := .type "list", data := .seq ([] : List Value).toArray }).get? s.heap.objs.size = some { cls := .type "list", data := .seq ([] : List Value).toArray } := Heap.get?_push_size _ rfl
  obtain ⟨l1, l2⟩ := K.there _ hok
  refine wpAny_pure ⟨plainId_quiet PySem.F.plain_list_iadd _, kdl_iadd (s := { s with heap := s.heap.push { cls := .type "list", data := .seq ([] : List Value).toArray } }) K hh (K.keep _ _ hok fun b _ o e => Heap.get?_push_of_some _ e) s.heap.objs.size (Nat.ne_of_gt l1) (Nat.ne_of_gt l2) hS₁ (fun h' tk acc' c' hk hS' hacc => ?_) hn⟩
  show wpAny _ A (load s.heap.objs.size >>= _) _ _ _
  refine wpAny_bind (wpAny_load hS' ?_)
  exact wpAny_pure (hQ h' tk acc' (fun b o e => hk b o (Nat.ne_of_lt (Heap.lt_size e)) (Heap.get?_push_of_some _ e)) (Heap.lt_size hS') hacc)
/-- sorted(s), s a set of rows -/
theorem sorted_setRows {d ep : Nat} {es : Array (Int × Value)} {t : SetTable} {Q : Value → Shared → Prop} (hs : SetAt w s.heap d ep es t) (hh : A.handled = none) (hu : A.units + 2 < cLine) (h64 : es.size < 64) (hk : ∀ e ∈ es.toList, ∃ x k, e.2 = .ref x ∧ TH s.heap x k)
    (h : ∀ (vs : List Value) (key : Nat → List Int) (p : Array Nat) (h' : Heap) (tk : Nat) (D c : Nat), vs.Perm (es.toList.map (·.2)) → (∀ i, i < vs.length → ∃ x, vs[i]? = some (.ref x) ∧ TH s.heap x (key i)) → PR vs.length p → SU iOrd key p vs.length → (∀ b o, s.heap.get? b = some o → h'.get? b = some o) → s.heap.objs.size ≤ D →
      h'.get? D = some (seqObj "list" (outOf vs p).toArray c) → Q (.ref D) { s with heap := h', toks := tk }) : wpAny (model prog w) A (call (.builtin "sorted") [.ref d]) Q E s := by
  have hz := sizeLine_eq
  refine Calls.call_function_entry kind_sorted plain_sorted entry_sorted (args_sorted1 _) ?_
  unfold Builtin.«sorted»
  refine wpAny_bind (m := checkCount "sorted" 1 1 _) (wpAny_pure (wpAny_bind (kdl_collect (src_set d ep es t) hh hs (by omega) fun h1 tk acc kp hlt hacc => ?_)))
  have hlen : acc.toList.length = es.size := by rw [Array.length_toList]; exact hacc.1
  have eacc : acc.toList = (walkOf w d ep es).toList.map (·.2) := by
    refine List.ext_getElem? fun i => ?_
    rw [List.getElem?_map, Array.getElem?_toList, Array.getElem?_toList]
    by_cases c : i < acc.size
    · obtain ⟨e, he, hv⟩ := hacc.2 i acc[i] (Array.getElem?_eq_getElem c)
      rw [Array.getElem?_eq_getElem c, he, hv]
      rfl
    · rw [Array.getElem?_eq_none (by omega), Array.getElem?_eq_none (by rw [walk_size]; have := hacc.1; omega)]
      rfl
  have hperm : acc.toList.Perm (es.toList.map (·.2)) := by rw [eacc]; exact walk_perm.map _
  generalize acc.toList = vs at hlen hperm ⊢
  have hkx : ∀ i, i < vs.length → ∃ x k, vs[i]? = some (.ref x) ∧ TH s.heap x k := fun i hi => by
    have hm := hperm.mem_iff.mp (List.getElem_mem hi)
    obtain ⟨e, he, e2⟩ := List.mem_map.mp hm
    obtain ⟨x, k, e3, th⟩ := hk e he
    exact ⟨x, k, by rw [List.getElem?_eq_getElem hi, ← e2, e3], th⟩
  have hkey : ∃ key : Nat → List Int, ∀ i, i < vs.length → ∃ x, vs[i]? = some (.ref x) ∧ TH s.heap x (key i) := by
    refine ⟨fun i => if hi : i < vs.length then (hkx i hi).choose_spec.choose else [], fun i hi => ?_⟩
    obtain ⟨a, b⟩ := (hkx i hi).choose_spec.choose_spec
    refine ⟨_, a, ?_⟩
    dsimp only
    rw [dif_pos hi]
    exact b
  obtain ⟨key, hkey⟩ := hkey
  refine wpAny_bind (wpAny_newList ?_ (by omega))
  have hat : (h1.push (seqObj "list" vs.toArray 0)).get? h1.objs.size = some (seqObj "list" vs.toArray 0) := Heap.get?_push_size _ rfl
  have k1 : G.KeepsTups s.heap h1 := fun b o e _ => kp b o e
  have k6 := (k1.trans (G.KeepsTups.push _ (seqObj "list" vs.toArray 0))).trans (G.keeps_sort6 (vs := vs) hat)
  have kp6 : ∀ i, i < vs.length → ∃ x, vs[i]? = some (.ref x) ∧ TH (G.sortHeap6 (h1.push (seqObj "list" vs.toArray 0)) h1.objs.size vs) x (key i) := fun i hi => by
    obtain ⟨x, e, r⟩ := hkey i hi
    exact ⟨x, e, sord_T.keep k6 r⟩
  show wpAny _ _ _ _ _ { s with heap := h1.push (seqObj "list" vs.toArray 0), toks := tk }
  refine wpAny_bind (wpAny_holding (wpAny_call_entry slot_list_sort ⟨_, hat, rfl⟩ entry_list_sort (ls_any (s := { s with heap := h1.push (seqObj "list" vs.toArray 0), toks := tk }) (O := iOrd) (key := key) (kd := tuples' true) hat (by omega) (fun h2 R hr => kind_of sord_T (key := key) (by omega) kp6 hr)
    (asks_of sord_T (show A.in1.in1.units < cLine from hu) kp6) fun p hp hsu => ⟨_, rfl, wpAny_pure ⟨_, rfl, ?_⟩⟩) (args_list_sort _)))
  obtain ⟨c, hc⟩ := sortedHeap_at (out := (outOf vs p).toArray) hat
  refine h vs key p _ tk h1.objs.size c hperm hkey hp hsu (fun b o e => ?_) (Nat.le_of_lt hlt) hc
  have hb := kp b o e
  have hl := Heap.lt_size hb
  rw [sortedHeap_old (Nat.ne_of_lt hl) (by rw [size_push']; exact Nat.lt_succ_of_lt hl), Heap.get?_push_ne _ _ _ (Nat.ne_of_lt hl)]
  exact hb
end
/-! ### set(xs) of rows -/
section
variable {prog : Program} {w : World} {A : Around} {Rs : Result → Shared → Prop} {I : Addr} {fp wr : List Addr} {G : Array GenState → Array GenState → Prop} {n : Nat} {P : Nat → Value → Prop} {St : Nat → Shared → Prop}
theorem SetT.of {R : Int × Value → Prop} {led : Bool} {h h' : Heap} {a : Addr} {S : List Int → Prop} {m : Nat} (x : SetT prog w R led h a S m) (k : ∀ o, h.get? a = some o → h'.get? a = some o) (kt : ∀ e k, R e → EK prog w h e k → EK prog w h' e k) : SetT prog w R led h' a S m := by
  obtain ⟨o, es, ep, t, ho, hex, hd, T, Rm, hl, hp, en, hz⟩ := x
  exact ⟨o, es, ep, t, k o ho, hex, hd, T, Rm, hl, hp, en.move kt, hz⟩
theorem SetT.fun {R : Int × Value → Prop} {led : Bool} {h : Heap} {a : Addr} {S S' : List Int → Prop} {m m' : Nat} (x : SetT prog w R led h a S m) (k : ∀ j, S j ↔ S' j) (hm : m ≤ m') : SetT prog w R led h a S' m' := by
  obtain ⟨o, es, ep, t, ho, hex, hd, T, Rm, hl, hp, en, hz⟩ := x
  exact ⟨o, es, ep, t, ho, hex, hd, T, Rm, hl, hp, ⟨en.all, en.key, en.two, fun j => (k j).symm.trans (en.mem j)⟩, by omega⟩
def RowE (prog : Program) (w : World) (rs : List (List Int × Addr)) (e : Int × Value) : Prop := ∃ r ∈ rs, e = (hK prog w r.1, .ref r.2)
theorem set_loopR {led : Bool} (W : WalksS prog w A.in1 I fp wr G n P St) (hu : A.in1.units < cLine) (S : Addr) (hSf : S ∉ fp) (rs : List (List Int × Addr)) (hl : rs.length = n) (hval : ∀ i v, P i v → ∃ r, rs[i]? = some r ∧ v = .ref r.2) (hb : n < 64) (hfr : ∀ r ∈ rs, r.2 ∉ S :: wr) :
    ∀ (k i : Nat) (s : Shared), n - i = k → i ≤ n → St i s → (∀ r ∈ rs, TK prog w s.heap r.1 r.2) → SetT prog w (RowE prog w rs) led s.heap S (fun k => k ∈ (rs.take i).map (·.1)) i →
      (∀ s', Moved (S :: wr) G s s' → SetT prog w (RowE prog w rs) led s'.heap S (fun k => k ∈ rs.map (·.1)) n → Rs (.ok (.ret .none)) s') →
      codeAny (model prog w) A (.builtin "set.update.loop" ⟨[.ref S, .ref I], []⟩) Rs s := by
  have nw : S ∉ wr := fun h => hSf (W.sub _ h)
  have sub : ∀ b ∈ wr, b ∈ S :: wr := fun b hb => List.mem_cons_of_mem _ hb
  have mvT : ∀ {s s' : Shared}, Moved wr G s s' → ∀ k, ∀ r ∈ rs, TK prog w s.heap k r.2 → TK prog w s'.heap k r.2 := fun hm k r hr ⟨o, items, n, ho, hc, hd, hi⟩ =>
    ⟨o, items, n, hm.heap _ o (fun z => hfr r hr (sub _ z)) ho, hc, hd, hi⟩
  have mvK : ∀ {s s' : Shared}, Moved wr G s s' → ∀ e k, RowE prog w rs e → EK prog w s.heap e k → EK prog w s'.heap e k := fun hm e k ⟨r, hr, er⟩ ⟨b, q1, q2⟩ => by
    subst er
    cases (congrArg Prod.snd q1)
    exact ⟨_, q1, mvT hm k r hr q2⟩
  intro k
  induction k with
  | zero =>
    intro i s hk hi hst hT hS hR'
    obtain rfl : i = n := by omega
    refine codeAny_builtin PyProof.Rows.F.entry_set_update_loop ?_
    rw [Around.under_plainId PyProof.Rows.F.plain_set_update_loop _]
    show wpAny _ A.in1 (pyNext (.ref I) >>= _) _ _ s
    refine wpAny_bind (W.done s _ _ hst fun s' hm => ?_)
    show wpAny _ A.in1 (ret Value.none) _ _ s'
    refine wpAny_pure (hR' s' (hm.mono sub) ?_)
    rw [← hl, List.take_length] at hS
    rw [← hl]
    exact hS.of (fun o e => hm.heap S o nw e) (mvK hm)
  | succ k ih =>
    intro i s hk hi hst hT hS hR'
    have hlt : i < n := by omega
    refine codeAny_builtin PyProof.Rows.F.entry_set_update_loop ?_
    rw [Around.under_plainId PyProof.Rows.F.plain_set_update_loop _]
    show wpAny _ A.in1 (pyNext (.ref I) >>= _) _ _ s
    refine wpAny_bind (W.item i s _ _ hlt hst fun v s' hP hst' hm => ?_)
    obtain ⟨⟨ky, x⟩, hx, rfl⟩ := hval i v hP
    have hxm : (ky, x) ∈ rs := List.mem_of_getElem? hx
    have hT' : ∀ r ∈ rs, TK prog w s'.heap r.1 r.2 := fun r hr => mvT hm _ r hr (hT r hr)
    have hxT : TK prog w s'.heap ky x := hT' _ hxm
    have hS' : SetT prog w (RowE prog w rs) led s'.heap S (fun k => k ∈ (rs.take i).map (·.1)) i := hS.of (fun o e => hm.heap S o nw e) (mvK hm)
    show wpAny _ A.in1 (holding [Value.ref x] (setAdd S (.ref x)) >>= _) _ _ s'
    refine wpAny_bind (wpAny_holding ?_)
    unfold setAdd
    refine wpAny_holding ?_
    refine wpAny_bind (wpAny_pyHash_tuple hu hxT ?_)
    refine wp_add (s := { s' with toks := s'.toks + (ky.length + 1) }) hu hS' (by omega) hxT ⟨_, hxm, rfl⟩ fun b h' hsb hS2 => ?_
    refine wpAny_pure ⟨plainId_quiet PyProof.Rows.F.plain_set_update_loop _, ih (i + 1) _ (by omega) hlt (W.frame _ s' _ _ hst' (Nat.le_add_right _ _) fun b hb o e => ?_) (fun r hr => ?_) ?_ fun s'' hm'' hS'' => ?_⟩
    · rw [hsb.2 b (fun h : b = S => hSf (by rw [← h]; exact hb))]; exact e
    · obtain ⟨o, items, m, ho, hc, hd, hi⟩ := hT' r hr
      exact ⟨o, items, m, (hsb.2 _ fun z => hfr r hr (by rw [z]; exact List.mem_cons_self)).trans ho, hc, hd, hi⟩
    · refine hS2.fun (fun j => ?_) (Nat.le_refl _)
      rw [List.take_add_one, hx]
      simp
    · refine hR' s'' (Moved.trans W.gtrans ((hm.mono sub).then_heap (Nat.le_add_right _ _) fun b o hb e => ?_) hm'') hS''
      rw [hsb.2 b (fun h : b = S => hb (by rw [h]; exact List.mem_cons_self))]; exact e
end
end ST


set_option Elab.async false
set_option linter.all false
set_option maxRecDepth 100000
set_option maxHeartbeats 3200000
namespace ST
open PySem PySem.SetTable PyProof.Rows PySem.Spec L2
section
variable {prog : Program} {w : World} {A : Around} {E : Value → Shared → Prop} {s : Shared}
theorem set_new_led (a : Value) {Q₁ : Value → Shared → Prop} (h : Q₁ (.ref s.heap.objs.size) { s with heap := s.heap.push { cls := .type "set", dict := none, data := .set #[] 0 (.fresh 0 0 (!byT w)) } }) :
    codeAny (model prog w) A (.call (.builtin "set.__new__") ⟨[.type "set", a], []⟩) (wants Q₁ E) s := by
  refine codeAny_of_tree ?_
  show wpAny _ A.in1 (do checkBuiltinCall "set.__new__" ⟨[.type "set", a], []⟩; again (.builtin "set.__new__" ⟨[.type "set", a], []⟩)) _ _ s
  refine wpAny_bind (wpAny_of_eq (PySem.F.newCall_set_1 a) (wpAny_pure ⟨plainId_quiet PySem.F.plain_set_new _, codeAny_builtin PySem.F.entry_set_new ?_⟩))
  rw [Around.under_plainId PySem.F.plain_set_new _]
  unfold Builtin.«set.__new__» Builtin.Frozenset.newClass
  have hsub := sub_set_self
  obtain ⟨hp, g, d, tk, os⟩ := s
  dsimp only
  wp_walk
  refine wpAny_askSetting (wpAny_pure ?_)
  dsimp only
  simp only [newObj]
  refine wpAny_bind (wpAny_alloc (wpAny_pure ?_))
  exact wpAny_pure h
theorem call_set_rows {l : Addr} {items : Array Value} {rs : List (List Int × Addr)} {Q : Value → Shared → Prop}
    (hh : A.handled = none) (hu : A.units + 4 < cLine) (hl : s.heap.IsList l items) (hi : ∀ (i : Nat) (v : Value), items[i]? = some v → ∃ r, rs[i]? = some r ∧ v = .ref r.2) (hlen : rs.length = items.size) (hb : items.size < 64) (hT : ∀ r ∈ rs, TK prog w s.heap r.1 r.2)
    (h : ∀ (h' : Heap) (tk : Nat), SetT prog w (RowE prog w rs) (!byT w) h' s.heap.objs.size (fun k => k ∈ rs.map (·.1)) items.size → (∀ b o, b < s.heap.objs.size → s.heap.get? b = some o → h'.get? b = some o) → Q (.ref s.heap.objs.size) { s with heap := h', toks := tk }) :
    wpAny (model prog w) A (call (.type "set") [.ref l]) Q E s := by
  obtain ⟨c, tl, hmro⟩ := F.called_set.mro
  have hmade := F.called_set.made
  have hsub := F.called_set.sub
  refine wpAny_call (codeAny_of_tree ?_)
  show wpAny _ _ (callAny (.type "set") _) _ _ _
  refine wpAny_pure ⟨Code.quiet_builtin _ (by decide +kernel), codeAny_builtin F.entry_type_call ?_⟩
  rw [Around.under_plain (weight_type_call_type "set" [.ref l] []) rfl]
  have h1 := F.called_set.notType
  have h2 := F.called_set.canCreate
  have hct := F.typeCall_set_1 (.ref l)
  repeat (any_goals (first | assumption | wp_step))
  refine codeAny_mono (set_new_led (.ref l) (E := E) (Q₁ := fun obj s₁ => obj = .ref s.heap.objs.size ∧ s₁ = { s with heap := s.heap.push { cls := .type "set", dict := none, data := .set #[] 0 (.fresh 0 0 (!byT w)) } }) ⟨rfl, rfl⟩) fun r s₁ hr => ?_
  cases r with
  | error e => exact hr
  | ok fl =>
    cases fl with
    | ret obj =>
      obtain ⟨rfl, rfl⟩ := hr
      have hS : (s.heap.push { cls := .type "set", dict := none, data := .set #[] 0 (.fresh 0 0 (!byT w)) }).get? s.heap.objs.size = some { cls := .type "set", dict := none, data := .set #[] 0 (.fresh 0 0 (!byT w)) } := Heap.get?_push_size _ rfl
      have hTy : Shared.TypeIs { s with heap := s.heap.push { cls := .type "set", dict := none, data := .set #[] 0 (.fresh 0 0 (!byT w)) } } (.ref s.heap.objs.size) "set" := ⟨_, hS, rfl⟩
      have hli := F.called_set.init.lookup
      have hbi := F.called_set.init.bind (.ref s.heap.objs.size)
      repeat (any_goals (first | assumption | wp_step))
      refine codeAny_mono (codeAny_call_builtin (R := wants (fun r s₂ => r = .none ∧ ∃ h' tk, s₂ = { s with heap := h', toks := tk } ∧ SetT prog w (RowE prog w rs) (!byT w) h' s.heap.objs.size (fun k => k ∈ rs.map (·.1)) items.size ∧
          (∀ b o, b < s.heap.objs.size → s.heap.get? b = some o → h'.get? b = some o)) E) F.called_set.init.plain F.entry_set_init (check_set_init_1 hTy ?_)) fun r₂ s₂ hr₂ => ?_
      · obtain ⟨ol, hol, hcl, nl, hdl⟩ := hl
        obtain ⟨ocls, odict, odata, oslots⟩ := ol
        simp only at hcl hdl
        subst hcl; subst hdl
        have hol' : (s.heap.push { cls := .type "set", dict := none, data := .set #[] 0 (.fresh 0 0 (!byT w)) }).get? l = some { cls := .type "list", dict := odict, data := .seq items nl, slots := oslots } := Heap.get?_push_of_some _ hol
        have hsls := F.sub_list_set
        have hslf := F.sub_list_frozenset
        have hne : (Value.type "list" == Value.type "dict") = false := by decide
        have hl1 : (s.heap.push { cls := .type "set", dict := none, data := .set #[] 0 (.fresh 0 0 (!byT w)) }).IsList l items := ⟨_, hol', rfl, nl, rfl⟩
        unfold Builtin.«set.__init__» noKeywords Builtin.Frozenset.updateFrom
        generalize hPI : pyIter = PI
        wp_walk
        subst hPI
        refine wpAny_pyIter_list hl1 ?_
        refine wpAny_bind (wpAny_runValue ?_)
        have hlS : l < s.heap.objs.size := Heap.lt_size hol
        have hh3 : A.in1.in1.in1.handled = none := by simp [hh]
        have hneI : l ≠ (s.heap.push { cls := .type "set", dict := none, data := .set #[] 0 (.fresh 0 0 (!byT w)) }).objs.size := by
          rw [Heap.size_push]; exact Nat.ne_of_lt (Nat.lt_succ_of_lt hlS)
        have hSf : s.heap.objs.size ∉ [(s.heap.push { cls := .type "set", dict := none, data := .set #[] 0 (.fresh 0 0 (!byT w)) }).objs.size, l] := by
          rw [Heap.size_push]; simp only [List.mem_cons, List.mem_singleton, List.not_mem_nil, or_false, not_or]
          exact ⟨Nat.ne_of_lt (Nat.lt_succ_self _), Nat.ne_of_gt hlS⟩
        have hTk : ∀ {h' : Heap}, (∀ b o, s.heap.get? b = some o → h'.get? b = some o) → ∀ r ∈ rs, TK prog w h' r.1 r.2 := fun kp r hr => by
          obtain ⟨o, it, m, ho, x⟩ := hT r hr
          exact ⟨o, it, m, kp _ _ ho, x⟩
        refine set_loopR (led := !byT w) ((Walks.list hh3 _ l hneI items).toS) (show A.in1.in1.in1.units < cLine by show A.units + 1 + 1 + 1 < cLine; omega) s.heap.objs.size hSf rs hlen hi hb ?hfr (items.size - 0) 0 _ (by omega) (Nat.zero_le _)
          ⟨⟨_, Heap.get?_push_size _ rfl, rfl, rfl⟩, (hl1.push _)⟩ (hTk fun b o e => Heap.get?_push_of_some _ (Heap.get?_push_of_some _ e)) ?hS0 ?hR
        case hfr =>
          intro r hr
          obtain ⟨o, it, m, ho, x⟩ := hT r hr
          have := Heap.lt_size ho
          rw [Heap.size_push]
          simp only [List.mem_cons, List.mem_singleton, List.not_mem_nil, or_false, not_or]
          exact ⟨Nat.ne_of_lt this, Nat.ne_of_lt (Nat.lt_succ_of_lt this)⟩
        case hS0 =>
          have hget := Heap.get?_push_of_some (h := s.heap.push { cls := .type "set", dict := none, data := .set #[] 0 (.fresh 0 0 (!byT w)) }) { cls := .type "list_iterator", data := .fields #[.ref l, .int 0 0] } hS
          exact ⟨_, #[], 0, _, hget, ⟨rfl, rfl, rfl⟩, rfl, TB.fresh _ _ _, room_fresh _ _ _, rfl, rfl, ⟨(fun e z => by simp at z), (fun e z => by simp at z), List.Pairwise.nil, (fun k => by simp)⟩, Nat.le_refl _⟩
        case hR =>
          intro s' hm hS'
          obtain ⟨h', g', d', tk', os'⟩ := s'
          have eg : g' = s.gens := hm.gens
          have ed : d' = s.drawn := hm.drawn
          have eo : os' = s.os := hm.os
          subst eg; subst ed; subst eo
          show wpAny _ _ _ _ _ _
          refine wpAny_pure ?_
          show wpAny _ _ (ret Value.none) _ _ _
          refine wpAny_pure ⟨rfl, h', tk', rfl, hS', fun b o hb e => ?_⟩
          have hb1 : b ≠ s.heap.objs.size := Nat.ne_of_lt hb
          have hb2 : b ≠ (s.heap.push { cls := .type "set", dict := none, data := .set #[] 0 (.fresh 0 0 (!byT w)) }).objs.size := by
            rw [Heap.size_push]; exact Nat.ne_of_lt (Nat.lt_succ_of_lt hb)
          exact hm.heap b o (by simp only [List.mem_cons, List.mem_singleton, List.not_mem_nil, or_false, not_or]; exact ⟨hb1, hb2⟩) (Heap.get?_push_of_some _ (Heap.get?_push_of_some _ e))
      · cases r₂ with
        | error e => exact hr₂
        | ok fl₂ =>
          cases fl₂ with
          | ret r =>
            obtain ⟨rfl, h', tk, rfl, hS', hk'⟩ := hr₂
            repeat (any_goals (first | assumption | wp_step))
            exact h _ _ hS' hk'
          | _ => exact hr₂.elim
    | _ => exact hr.elim
end
end ST


set_option Elab.async false
set_option linter.all false
set_option maxRecDepth 100000
set_option maxHeartbeats 1600000
namespace L2
open PySem PySem.W PyProof.Rows ST PySem.SetTable
/-! ### sets of rows as things of the heap -/
def SetR (P : Program) (w : World) (a : Addr) (xs : List (List Int × Addr)) : HO := .ext fun h => ∃ o es ep t, h.get? a = some o ∧ o.ExactSet ∧ o.data = .set es ep t ∧ TB es t ∧ ST.Room es t ∧ t.led = !byT w ∧ t.plain = true ∧ es.toList = xs.map fun r => (hK P w r.1, Value.ref r.2)
abbrev rV (r : List Int × Addr) : V := .ref r.2
def RowAt (H : Hp) (r : List Int × Addr) : Prop := H r.2 = some (.tup (r.1.map V.int))
theorem perm_lift {α β : Type} {f : α → β} {vs l : List β} (h : vs.Perm l) : ∀ {xs : List α}, l = xs.map f → ∃ zs : List α, zs.Perm xs ∧ vs = zs.map f := by
  induction h with
  | nil => intro xs e; exact ⟨[], by rw [List.map_eq_nil_iff.mp e.symm], rfl⟩
  | cons x _ ih =>
    intro xs e
    cases xs with
    | nil => cases e
    | cons y ys =>
      obtain ⟨e1, e2⟩ := List.cons.inj e
      obtain ⟨zs, p, q⟩ := ih e2
      exact ⟨y :: zs, p.cons y, by rw [List.map_cons, ← q, e1]⟩
  | swap x y l =>
    intro xs e
    cases xs with
    | nil => cases e
    | cons a r =>
      cases r with
      | nil => cases e
      | cons b r =>
        obtain ⟨e1, e2⟩ := List.cons.inj e
        obtain ⟨e2, e3⟩ := List.cons.inj e2
        exact ⟨b :: a :: r, List.Perm.swap a b r, by rw [List.map_cons, List.map_cons, ← e1, ← e2, ← e3]⟩
  | trans _ _ ih1 ih2 =>
    intro xs e
    obtain ⟨zs, p, q⟩ := ih2 e
    obtain ⟨us, p', q'⟩ := ih1 q
    exact ⟨us, p'.trans p, q'⟩
theorem map_int_inj : ∀ {a b : List Int}, a.map V.int = b.map V.int → a = b
  | [], [], _ => rfl
  | [], _ :: _, h => by cases h
  | _ :: _, [], h => by cases h
  | x :: a, y :: b, h => by
    obtain ⟨h1, h2⟩ := List.cons.inj h
    cases h1
    rw [map_int_inj h2]
section
variable {X : Cx} {pins : List (Addr × Obj)} {σ : St} {H : Hp} {s : Shared}
theorem RowAt.th (I : Inv X pins σ H s) {r : List Int × Addr} (h : RowAt H r) (hn : r.1 ≠ []) : TH s.heap r.2 r.1 := by
  obtain ⟨its, rv, p, _⟩ := I.tuple (SqT.of h)
  exact ⟨_, p, intsAre_of rv, hn⟩
theorem RowAt.tk (I : Inv X pins σ H s) {r : List Int × Addr} (h : RowAt H r) : TK X.prog X.w s.heap r.1 r.2 := by
  obtain ⟨its, rv, p, _⟩ := I.tuple (SqT.of h)
  exact tup_key p (intsAre_of rv)
theorem ents_of {P : Program} {w : World} {h : Heap} {rs : List (List Int × Addr)} (hT : ∀ r ∈ rs, TK P w h r.1 r.2) : ∀ {es : List (Int × Value)}, (∀ e ∈ es, RowE P w rs e) → es.Pairwise (fun e e' => ∀ k k', EK P w h e k → EK P w h e' k' → k ≠ k') →
    ∃ xs : List (List Int × Addr), es = xs.map (fun r => (hK P w r.1, Value.ref r.2)) ∧ (∀ x ∈ xs, x ∈ rs) ∧ (xs.map (·.1)).Nodup
  | [], _, _ => ⟨[], rfl, (fun x z => nomatch z), List.nodup_nil⟩
  | e :: es, ha, hp => by
    obtain ⟨xs, e1, h1, h2⟩ := ents_of hT (es := es) (fun e' he' => ha e' (.tail _ he')) (List.pairwise_cons.mp hp).2
    obtain ⟨r, hr, er⟩ := ha e (.head _)
    refine ⟨r :: xs, by rw [List.map_cons, ← e1, er], fun x hx => ?_, ?_⟩
    · rcases List.mem_cons.mp hx with z | z
      · rw [z]; exact hr
      · exact h1 x z
    · rw [List.map_cons, List.nodup_cons]
      refine ⟨fun hm => ?_, h2⟩
      obtain ⟨x, hx, ex⟩ := List.mem_map.mp hm
      have hx2 : (hK P w x.1, Value.ref x.2) ∈ es := by rw [e1]; exact List.mem_map.mpr ⟨x, hx, rfl⟩
      exact (List.pairwise_cons.mp hp).1 _ hx2 r.1 x.1 ⟨r.2, er, hT r hr⟩ ⟨x.2, rfl, hT x (h1 x hx)⟩ ex.symm
def rSetR (P : Program) (w : World) (K : PySem.W.Frag) : List V → Hp → VK → Prop := fun vs H Q => ∃ (a : Addr) (rs : List (List Int × Addr)), vs = [.ref a] ∧ SqL K H a (rs.map rV) ∧ rs.length < 64 ∧ (∀ r ∈ rs, RowAt H r) ∧
  ∀ (p : Addr) (xs : List (List Int × Addr)), H p = none → (∀ x ∈ xs, x ∈ rs) → (xs.map (·.1)).Nodup → (∀ r ∈ rs, r.1 ∈ xs.map (·.1)) → xs.length ≤ rs.length → Q (.ref p) (upd H p (SetR P w p xs))
theorem call_setR (hc : X.calm = true) (hu : X.A.units + 4 < cLine) : CallR X (.type "set") (rSetR X.prog X.w X.K) := by
  intro pins s σ H vs us Q I r h
  obtain ⟨a, rs, rfl, ha, hz, hr, q⟩ := h
  cases r with
  | cons r1 r2 =>
    cases r2
    cases r1
    obtain ⟨its, rv, hl, _⟩ := I.list ha
    have hlen : its.toArray.size = rs.length := by rw [List.size_toArray, ← rv.length, List.length_map]
    refine call_set_rows (rs := rs) (I.ok.hd hc) hu hl.isList (fun i v hv => ?_) hlen.symm (by omega) (fun r hr' => RowAt.tk I (hr r hr')) fun h' tk hS kp => ?_
    · rw [List.getElem?_toArray] at hv
      obtain ⟨u, e1, r1⟩ : ∃ u, (rs.map rV)[i]? = some u ∧ RelV u v := by
        have hi := (List.getElem?_eq_some_iff.mp hv).1
        have hi2 : i < (rs.map rV).length := by rw [rv.length]; exact hi
        obtain ⟨u', e', r'⟩ := rv.get (List.getElem?_eq_getElem hi2)
        rw [hv] at e'
        cases e'
        exact ⟨_, List.getElem?_eq_getElem hi2, r'⟩
      rw [List.getElem?_map] at e1
      obtain ⟨r0, e2, rfl⟩ := Option.map_eq_some_iff.mp e1
      cases r1
      exact ⟨r0, e2, rfl⟩
    · have hf := I.hok.fresh (Nat.le_refl s.heap.objs.size)
      have hT' : ∀ r ∈ rs, TK X.prog X.w h' r.1 r.2 := fun r hr' => by
        obtain ⟨o, it, m, ho, x⟩ := RowAt.tk I (hr r hr')
        exact ⟨o, it, m, kp _ _ (Heap.lt_size ho) ho, x⟩
      obtain ⟨o, es, ep, t, ho, hex, hd, T, Rm, hle, hp, en, hsz⟩ := hS
      obtain ⟨xs, e1, h1, h2⟩ := ents_of hT' en.all en.two
      refine ⟨.ref s.heap.objs.size, _, I.laid (t' := tk) (o := SetR X.prog X.w s.heap.objs.size xs) (fun b o z => kp b o (Heap.lt_size z) z) (Nat.le_refl _) ?_, rfl, q _ xs hf h1 h2 (fun r hr' => ?_) ?_⟩
      · exact ⟨⟨o, es, ep, t, ho, hex, hd, T, Rm, hle, hp, e1⟩, ⟨o, ho⟩, fun h1 h2 ⟨o1, es1, ep1, t1, g1, z⟩ kk => ⟨o1, es1, ep1, t1, kk _ g1, z⟩⟩
      · obtain ⟨e, he, hk⟩ := (en.mem r.1).mp (List.mem_map.mpr ⟨r, hr', rfl⟩)
        rw [e1] at he
        obtain ⟨x, hx, ex⟩ := List.mem_map.mp he
        have : r.1 = x.1 := EK.inj hk ⟨x.2, ex.symm, hT' x (h1 x hx)⟩
        exact List.mem_map.mpr ⟨x, hx, this.symm⟩
      · have : es.size = xs.length := by rw [← Array.length_toList, e1, List.length_map]
        omega
def rSrtS (P : Program) (w : World) : List V → Hp → VK → Prop := fun vs H Q => ∃ (a : Addr) (xs : List (List Int × Addr)), vs = [.ref a] ∧ H a = some (SetR P w a xs) ∧ xs.length < 64 ∧ (∀ x ∈ xs, RowAt H x ∧ x.1 ≠ []) ∧
  ∀ (ys : List (List Int × Addr)) (p : Addr), ys.Perm xs → ys.Pairwise (fun a b => iOrd.kle a.1 b.1) → H p = none → Q (.ref p) (upd H p (.lst (ys.map rV)))
theorem outV_map {xs : List (List Int × Addr)} {p : Array Nat} (h : PR xs.length p) : outV (xs.map rV) p = (p.toList.map fun i => xs.getD i ([], 0)).map rV := by
  unfold outV
  rw [List.map_map]
  refine List.map_congr_left fun i hi => ?_
  have hm : i < xs.length := by
    have := (Array.perm_iff_toList_perm.mp h).mem_iff.mp hi
    simpa using this
  show (xs.map rV).getD i .non = rV (xs.getD i ([], 0))
  rw [List.getD_eq_getElem?_getD, List.getD_eq_getElem?_getD, List.getElem?_map, List.getElem?_eq_getElem hm]
  rfl
theorem cr_srtS (hc : X.calm = true) (hu : X.A.units + 2 < cLine) : CallR X (.builtin "sorted") (rSrtS X.prog X.w) := by
  intro pins s σ H vs us Q I r h
  obtain ⟨a, xs, rfl, ha, h64, hr, q⟩ := h
  rw [Vals.ref1 r]
  obtain ⟨⟨o, es, ep, t, ho, hex, hd, T, Rm, hle, hp, e1⟩, _, _⟩ := I.hok a _ ha
  have hsz : es.size = xs.length := by rw [← Array.length_toList, e1, List.length_map]
  refine sorted_setRows (d := a) (ep := ep) (es := es) (t := t) ⟨⟨o, ho, hex, hd⟩, T, T.fits (Nat.le_of_lt Rm.le), hle, hp⟩ (I.ok.hd hc) hu (by omega) (fun e he => ?_) fun vs key p h' tk D c hpm hk hp2 hsu kp hD hat => ?_
  · rw [e1] at he
    obtain ⟨x, hx, rfl⟩ := List.mem_map.mp he
    exact ⟨x.2, x.1, rfl, RowAt.th I (hr x hx).1 (hr x hx).2⟩
  · obtain ⟨zs, pz, ez⟩ := perm_lift (f := fun r : List Int × Addr => Value.ref r.2) hpm (xs := xs) (by rw [e1, List.map_map]; rfl)
    have hlz : zs.length = xs.length := pz.length_eq
    have hlv : vs.length = zs.length := by rw [ez, List.length_map]
    have hkz : ∀ i, i < zs.length → key i = (zs.getD i ([], 0)).1 := fun i hi => by
      obtain ⟨x, ex, its, tp, ia, _⟩ := hk i (by omega)
      rw [ez, List.getElem?_map, List.getElem?_eq_getElem hi] at ex
      cases ex
      rw [List.getD_eq_getElem?_getD, List.getElem?_eq_getElem hi]
      obtain ⟨its', tp', ia', _⟩ := RowAt.th I (hr zs[i] (pz.mem_iff.mp (List.getElem_mem hi))).1 (hr _ (pz.mem_iff.mp (List.getElem_mem hi))).2
      have k1 := tup_key (prog := X.prog) (w := X.w) (s := s) tp ia
      have k2 := tup_key (prog := X.prog) (w := X.w) (s := s) tp' ia'
      exact k1.inj k2
    rw [hlv] at hp2 hsu
    have hv : Vals (zs.map rV) vs := by
      rw [ez]
      clear ez hlv hlz pz hk hkz hp2 hsu hpm hat
      induction zs with
      | nil => exact .nil
      | cons z zs ih => exact .cons (show RelV (.ref z.2) (Value.ref z.2) from rfl) ih
    have hp3 : PR (zs.map rV).length p := by rw [List.length_map]; exact hp2
    refine ⟨.ref D, upd H D (.lst (outV (zs.map rV) p)), I.laid (t' := tk) kp hD ⟨by rw [outV_len hp3, List.length_map]; exact small64 (by omega), outOf vs p, c, outV_vals hv hp3, hat⟩, rfl, ?_⟩
    rw [outV_map hp2]
    refine q _ D ?_ ?_ (I.hok.fresh hD)
    · have h1 : p.toList.Perm (List.range zs.length) := by
        have := Array.perm_iff_toList_perm.mp hp2
        rwa [List.toList_toArray] at this
      have h2 : (List.range zs.length).map (fun i => zs.getD i ([], 0)) = zs := List.ext_getElem (by simp) fun i h1 h2 => by simp [List.getElem?_eq_getElem h2]
      have h3 := h1.map fun i => zs.getD i ([], 0)
      rw [h2] at h3
      exact h3.trans pz
    · rw [List.pairwise_map, List.pairwise_iff_getElem]
      intro i j hi hj hij
      rw [Array.length_toList] at hi hj
      have hps := hp2.size
      have := hsu i j (by omega) (by omega)
      unfold gk at this
      have g : ∀ m, m < p.size → p.getD m 0 < zs.length := fun m hm => hp2.lt (by omega)
      rw [hkz _ (g i hi), hkz _ (g j hj)] at this
      simpa [Array.getD, hi, hj] using this
end
/-! ### list(d), the keys rows -/
section
variable {prog : Program} {w : World}
theorem src_dictT {d : Addr} {o : Obj} {es : Array DictEntry} {ep : Nat} (hd : (d == sysModules) = false) (hx : o.ExactDict) (hdt : o.data = .dict es ep) : PySem.W.KdlSrc prog w "dict" d d es.size (fun i v => ∃ e, es[i]? = some e ∧ v = e.key) (fun h => h.get? d = some o) where
  type := fun s hm => ⟨o, hm, hx.1⟩
  there := fun _ hm => ⟨Heap.lt_size hm, Heap.lt_size hm⟩
  keep := fun _ _ hm hk => hk d (.inl rfl) o hm
  notList := by decide
  notTuple := by decide
  hint := fun _ _ _ _ hm hq => kdl_hint_dict ⟨o, hm, hx.1⟩ hq
  iter := fun A s hh hm => by
    refine ⟨{ cls := .type "dict_keyiterator", data := .fields #[.ref d, .int 0 0, .int es.size 0, .int ep 0] }, fun i h => h.IsKeyIter s.heap.objs.size d i es.size ep ∧ h.get? d = some o, (fun _ _ hq => iter_keys hd hm hx hdt hq), ?_, ⟨⟨_, Heap.get?_push_size _ rfl, rfl, rfl⟩, Heap.get?_push_of_some _ hm⟩⟩
    have hne : d ≠ s.heap.objs.size := Nat.ne_of_lt (Heap.lt_size hm)
    exact {
      sub := fun b hb => by simp at hb; simp [hb]
      frame := fun _ _ _ st hk => ⟨st.1.at fun o e => hk s.heap.objs.size (by simp) o e, hk d (by simp) o st.2⟩
      item := fun i s' Q E hi st hQ => by
        refine next_key_item st.1 st.2 hdt rfl (Array.getElem?_eq_getElem hi) fun h' hit' hs' => ?_
        exact hQ _ h' s'.toks ⟨_, Array.getElem?_eq_getElem hi, rfl⟩ ⟨hit', (hs'.2 d hne).trans st.2⟩ fun b o hb e => hs'.extBut b o (fun h => hb (by simp [h])) e
      done := fun s' Q E st hQ => next_key_end hh st.1 st.2 hdt rfl (Nat.le_refl _) fun h' he' => hQ h' s'.toks fun b o hb e => he' b o (fun h => hb (by simp [h])) e
      self := fun _ _ _ _ st hQ => wpAny_pyIter_keyiter st.1 hQ }
end
section
variable {X : Cx}
def rListD : List V → Hp → VK → Prop := fun vs H Q => ∃ (a : Addr) (kvs : List (List Key × V)), vs = [.ref a] ∧ H a = some (.dT kvs) ∧
  ∀ (l : Addr) (qs : List Addr), H l = none → Paired (fun (q : Addr) (kv : List Key × V) => H q = some (.tup (kv.1.map kV))) qs kvs → Q (.ref l) (upd H l (.lst (qs.map V.ref)))
theorem call_listD (hc : X.calm = true) : CallR X (.type "list") rListD := by
  intro pins s σ H vs us Q I r h
  obtain ⟨a, kvs, rfl, ha, q⟩ := h
  rw [Vals.ref1 r]
  obtain ⟨z, hs, xs, pr, o, es, ep, ho, hx, hdt, he, _⟩ := I.hok a _ ha
  have l1 : es.size = xs.length := size_of_entries he
  have l2 : kvs.length = xs.length := Paired.length pr
  refine kdl_call (src_dictT hs hx hdt) (I.ok.hd hc) ho (by omega) fun h' tk acc c kp hat hacc => ?_
  have eacc : acc = ((xs.map fun x => Value.ref x.2.1)).toArray := by
    refine Array.ext_getElem? fun i => ?_
    have eR : ((xs.map fun x => Value.ref x.2.1)).toArray[i]? = (xs[i]?).map fun x => Value.ref x.2.1 := by rw [List.getElem?_toArray, List.getElem?_map]
    rw [eR]
    by_cases c : i < acc.size
    · obtain ⟨e, hee, hv⟩ := hacc.2 i acc[i] (Array.getElem?_eq_getElem c)
      rw [Array.getElem?_eq_getElem c, hv]
      have q := entry_at he i
      rw [hee] at q
      obtain ⟨x, hx1, hx2⟩ := Option.map_eq_some_iff.mp q.symm
      rw [hx1, ← hx2]
      rfl
    · rw [Array.getElem?_eq_none (by omega), List.getElem?_eq_none (by have := hacc.1; omega)]
      rfl
  have hpq : ∀ {kvs : List (List Key × V)} {xs : List (List Key × Addr × Value)}, Paired (fun (p : List Key × V) (q : List Key × Addr × Value) => p.1 = q.1 ∧ H q.2.1 = some (.tup (p.1.map kV)) ∧ RelV p.2 q.2.2) kvs xs →
      Paired (fun (q : Addr) (kv : List Key × V) => H q = some (.tup (kv.1.map kV))) (xs.map (·.2.1)) kvs := by
    intro kvs xs h
    induction h with
    | nil => exact .nil
    | cons r _ ih => exact .cons r.2.1 ih
  have hv : ∀ xs : List (List Key × Addr × Value), Vals ((xs.map (·.2.1)).map V.ref) (xs.map fun x => Value.ref x.2.1) := by
    intro xs
    induction xs with
    | nil => exact .nil
    | cons x xs ih => exact .cons (show RelV (.ref x.2.1) (Value.ref x.2.1) from rfl) ih
  rw [eacc] at hat
  exact ⟨.ref s.heap.objs.size, _, I.laid (t' := tk) (o := .lst ((xs.map (·.2.1)).map V.ref)) kp (Nat.le_refl _) ⟨by rw [List.length_map, List.length_map]; omega, _, c, hv xs, hat⟩, rfl, q _ _ (I.hok.fresh (Nat.le_refl _)) (hpq pr)⟩
end
end L2


set_option Elab.async false
set_option linter.all false
set_option maxRecDepth 100000
set_option maxHeartbeats 3200000
namespace L2
open PySem PySem.Spec PyProof.Rows
/-! ### dict comprehensions -/
section
variable {X : Cx} {pins : List (Addr × Obj)} {σ : St} {H : Hp} {s : Shared} {A : Around} {E : Value → Shared → Prop} {a : Addr} {y v : V} {u r : Value}
theorem d_dictSet {H' : Hp} {Q : Unit → Shared → Prop} (hu : A.units + 1 < cLine) (I : Inv X pins σ H s) (g : DPut H a y v H') (ry : RelV y u) (rv : RelV v r) (h : ∀ s', Inv X pins σ H' s' → Q () s') :
    wpAny (model X.prog X.w) A (dictSet a u r) Q E s := by
  rcases g with ⟨kvs, k, e, ey, l, eH⟩ | ⟨kvs, k, b, e, ey, eb, l, eH⟩
  · subst ey eH
    obtain ⟨z, hd, vs, rel, dd⟩ := dk_of I.hok e
    have hz : vs.length ≤ sizeLine := by rw [← rel.length]; exact z
    have hl : (putK kvs k v).length ≤ sizeLine := by have := length_putK kvs k v; omega
    refine wpAny_dictSet_pairs (hsz := hz) (kV_is ry) dd fun h' dd' hs => h _ ?_
    have he : ∃ q, h'.get? a = some q := let ⟨q, _, _, hq, _⟩ := dd'; ⟨q, hq⟩
    exact d_write I (by rw [e]; exact True.intro) hs he (dk_new hl hd (rel.put k rv) dd')
  · subst ey eH
    cases (show u = Value.ref b from ry)
    obtain ⟨z, hd, xs, rel, dd⟩ := dt_of I.hok e
    have hz : xs.length ≤ sizeLine := by rw [← Paired.length rel]; exact z
    have hl : (putK kvs k v).length ≤ sizeLine := by have := length_putK kvs k v; omega
    refine wpAny_dictSet_heap (hsz := hz) (show A.units < cLine by omega) (key_of I.hok eb) dd fun h' dd' hs => h _ ?_
    obtain ⟨q, es, ep, hq, h2, h3, h4, _, h5⟩ := dd'
    refine d_write I (by rw [e]; exact True.intro) hs ⟨q, hq⟩ ⟨hl, hd, _, (rel.put k eb rv).keeps fun c ys ec => ?_, q, es, ep, hq, h2, h3, h4, h5⟩
    rw [upd_ne (ne_of ec e (fun z => nomatch z))]
    exact ec
end
theorem compLoopD_any {prog : Program} {w : World} {A : Around} {R : Result → Shared → Prop} {s : Shared} {kx vx target iter : Expr} {ifs : List Expr} {scope : Scope} {pos : Pos} {it : Value} {Da : Addr} {env : Env} (I : Nat → Shared → Prop)
    (turn : ∀ n s, I n s → wpAny (model prog w) A (pyNext it) (fun r s₁ => match r with
      | none => R (.ok .next) s₁
      | some v => wpAny (model prog w) A (letOwnedTupleGo target it v) (fun _ s₁' => wpAny (model prog w) A (assign target env v) (fun _ s₂ =>
          wpAny (model prog w) A (forIn ifs true fun c r => if r = true then do let ok ← isTrue c env (eval c env); pure (ForInStep.yield ok) else pure (ForInStep.yield r)) (fun ok s₃ =>
            if ok = true then wpAny (model prog w) A (eval kx env) (fun kv s₄ => wpAny (model prog w) A (eval vx env) (fun vv s₅ =>
              wpAny (model prog w) A (dictSet Da kv vv) (fun _ s₆ => ∃ m, m < n ∧ I m s₆) (notedBy (model prog w) A env fun e s' => R (.error e) s') s₅) (notedBy (model prog w) A env fun e s' => R (.error e) s') s₄) (notedBy (model prog w) A env fun e s' => R (.error e) s') s₃
            else ∃ m, m < n ∧ I m s₃) (notedBy (model prog w) A env fun e s' => R (.error e) s') s₂) (notedBy (model prog w) A env fun e s' => R (.error e) s') s₁') (notedBy (model prog w) A env fun e s' => R (.error e) s') s₁) (notedBy (model prog w) A env fun e s' => R (.error e) s') s)
    (n : Nat) (h : I n s) :
    codeAny (model prog w) A (.compLoop (.DictComp kx vx [⟨target, iter, ifs, 0⟩] scope pos) 0 it (.ref Da) env) R s := by
  refine codeAny_loop rfl I (fun n s hI => ?_) n h
  show wpAny _ A ((compTurn (.DictComp kx vx [⟨target, iter, ifs, 0⟩] scope pos) 0 it (.ref Da) env).onRaise (fun x => do noteFrame x env; theTreesLotGoes x)) _ _ s
  refine wpAny_noted ?_
  rw [compTurn_dict]
  refine wpAny_bind (wpAny_standAt (wpAny_bind (wpAny_mono (turn n s hI) (fun r s₁ h₁ => ?_) fun _ _ h' => h')))
  cases r with
  | none => exact wpAny_pure h₁
  | some v =>
    refine wpAny_bind (wpAny_mono h₁ (fun _ s₁' h₁' => ?_) fun _ _ h' => h')
    refine wpAny_bind (wpAny_mono h₁' (fun _ s₂ h₂ => wpAny_bind (wpAny_mono h₂ (fun ok s₃ h₃ => ?_) fun _ _ h' => h')) fun _ _ h' => h')
    cases ok with
    | false => exact wpAny_pure ⟨rfl, h₃⟩
    | true =>
      exact wpAny_bind (wpAny_bind (wpAny_mono h₃ (fun kv s₄ h₄ => wpAny_bind (wpAny_holding (wpAny_mono h₄ (fun vv s₅ h₅ => wpAny_bind (wpAny_standAt (wpAny_holding (wpAny_mono h₅ (fun _ s₆ h₆ => wpAny_pure ⟨rfl, h₆⟩) fun _ _ h' => h')))) fun _ _ h' => h'))) fun _ _ h' => h'))

section
variable {X : Cx}
def tDc (o0 : HO) (wi : TI) (g : TG) (tt : TT) (tk tv : TE) (vs : List Nat) : TE := fun σ H Q => wi σ H fun J H1 => ∀ D, H1 D = none → ∃ W : Nat → Nat → Hp → Prop, (∃ m, W 0 m (upd H1 D o0)) ∧ ∀ i m H, W i m H →
  (J.stop i H ∧ Q (.ref D) H) ∨ (J.go i H ∧ ∃ Nx : Hp → Prop, (∀ H', Nx H' → ∃ m', m' < m ∧ W (i + 1) m' H') ∧ ∀ x H', J.yld i H x H' → g x (wipe σ vs) H' fun σ2 H2 => wipe σ2 vs = wipe σ vs ∧ tt σ2 H2 fun b H3 =>
    if b = true then tk σ2 H3 fun y H4 => tv σ2 H4 fun z H5 => ∃ H6, DPut H5 D y z H6 ∧ Nx H6 else Nx H3)
theorem dc_core {pins : List (Addr × Obj)} {s : Shared} {σ : St} {H : Hp} {Q : VK} {kx vx tg iter : Expr} {ifs : List Expr} {scope : Scope} {own : List (Str × Nat)} {pos pos' : Pos} {wi : TI} {g : TG} {tt : TT} {tk tv : TE} {o0 : HO} {use : Option (Value → Sem Unit)} {Qf : Value → Shared → Prop}
    (ho : o0 = .dT [] ∨ o0 = .dK []) (hu : X.A.units + 1 < cLine) (hc : X.calm = true) (hN : X.N.Nodup) (I : Inv X pins σ H s) (hi : PI X tg iter wi) (ok : BlkOk X.N X.env.scope scope own)
    (hg : ∀ (s : Shared) (H : Hp) (C : Addr) (cl : List (Str × Addr)) (fp : List Addr), PG (X.blk s H scope (compEnvC scope cl C X.env) fp) tg g) (ht : ∀ (s : Shared) (H : Hp) (C : Addr) (cl : List (Str × Addr)) (fp : List Addr), PTs (X.blk s H scope (compEnvC scope cl C X.env) fp) ifs tt)
    (hk : ∀ (s : Shared) (H : Hp) (C : Addr) (cl : List (Str × Addr)) (fp : List Addr), PE (X.blk s H scope (compEnvC scope cl C X.env) fp) kx tk) (hv : ∀ (s : Shared) (H : Hp) (C : Addr) (cl : List (Str × Addr)) (fp : List Addr), PE (X.blk s H scope (compEnvC scope cl C X.env) fp) vx tv) (hs : ∀ x, foldedSetIterable iter X.env x = pure x)
    (h : tDc o0 wi g tt tk tv (own.map (·.2)) σ H Q)
    (hRR : ∀ D C s' m H', Inv X pins σ H' s' → Q (.ref D) H' → s'.heap.Ns C m → FpOk X pins H' C → compPost (model X.prog X.w) X.A X.xe use Qf (.ref D) C (.ok .next) s') :
    wpAny (model X.prog X.w) X.A (comprehension (.DictComp kx vx [⟨tg, iter, ifs, 0⟩] scope pos) scope X.env pos' newDict false (eval iter X.env) use) Qf X.xe s := by
  have hfree : ∀ y ∈ scope.names, y.2 = .free → ∃ c, X.env.cells.lookup y.1 = some c := fun y hy e => by
    rcases ok.free y hy e with k | k
    · exact I.ok.has _ (.inl k)
    · exact I.ok.has _ (.inr k)
  refine wpAny_comprehension_free (use := use) rfl hs (closure_ok hfree) ok.kind (fun y hy e => by rw [ok.uniq y hy, e])
    (thn (hi pins s σ H _ I h) fun xv s1 hx => thn hx fun itv s2 h2 => ?_)
  obtain ⟨it, fp, tn, J, H2, e, I2, T, st2, f2, q⟩ := h2
  subst e
  refine wpAny_newObj_type (newEnv_comp ?_) (by size_fits)
  generalize hD : s2.heap.objs.size = D
  have hDn : H2 D = none := I2.hok.fresh (Nat.le_of_eq hD)
  obtain ⟨W, ⟨m0, w0⟩, turn⟩ := q D hDn
  -- the new list
  generalize hs3 : ({ s2 with heap := s2.heap.push { cls := .type "dict", data := .dict #[] } } : Shared) = s3
  have I3 : Inv X pins σ (upd H2 D o0) s3 := by
    rw [← hs3]
    refine I2.laid (t' := s2.toks) (fun b o e => Heap.get?_push_of_some _ e) (Nat.le_of_eq hD) ?_
    rw [← hD]
    rcases ho with rfl | rfl
    · exact dt_empty s2.heap I2.big
    · exact dk_empty s2.heap I2.big
  have h3 : s3.heap = s2.heap.push { cls := .type "dict", data := .dict #[] } := by rw [← hs3]
  have sz : ∀ b ∈ fp, b < s2.heap.objs.size := fun b hb => by
    obtain ⟨o, e, _⟩ := T.obj _ _ st2 b hb
    exact Heap.lt_size e
  have f3 : ∀ b ∈ fp, FpOk X pins (upd H2 D o0) b ∧ b < s3.heap.objs.size := fun b hb => by
    have hlt := sz b hb
    refine ⟨⟨?_, (f2 b hb).2⟩, by rw [h3, Heap.size_push]; exact Nat.lt_succ_of_lt hlt⟩
    rw [upd_ne (by rw [← hD]; exact Nat.ne_of_lt hlt)]
    exact (f2 b hb).1
  have st3 : tn 0 s3.heap := T.keep _ _ _ st2 fun b _ o e => by rw [h3]; exact Heap.get?_push_of_some _ e
  have I4 := block_start I3 ok hN f3
  have pg := hg s3 (upd H2 D o0) s3.heap.objs.size (cellsFrom (s3.heap.objs.size + 1) scope.names (cloFrom X.env.cells scope.names [])) fp
  have pt := ht s3 (upd H2 D o0) s3.heap.objs.size (cellsFrom (s3.heap.objs.size + 1) scope.names (cloFrom X.env.cells scope.names [])) fp
  have pk := hk s3 (upd H2 D o0) s3.heap.objs.size (cellsFrom (s3.heap.objs.size + 1) scope.names (cloFrom X.env.cells scope.names [])) fp
  have pv' := hv s3 (upd H2 D o0) s3.heap.objs.size (cellsFrom (s3.heap.objs.size + 1) scope.names (cloFrom X.env.cells scope.names [])) fp
  show codeAny _ _ (.compStart (.DictComp kx vx [⟨tg, iter, ifs, 0⟩] scope pos) 0 (.ref it) (.ref D) (compEnvC scope (cellsFrom (s3.heap.objs.size + 1) scope.names (cloFrom X.env.cells scope.names [])) s3.heap.objs.size X.env)) (compPost (model X.prog X.w) X.A X.xe use Qf (.ref D) s3.heap.objs.size) { s3 with heap := pushCells (s3.heap.push { cls := .type "dict", data := .dict #[] }) scope.names }
  have nfp : ∀ b ∈ fp, (upd H2 D o0) b = none := fun b hb => (f3 b hb).1.1
  generalize hce : compEnvC scope (cellsFrom (s3.heap.objs.size + 1) scope.names (cloFrom X.env.cells scope.names [])) s3.heap.objs.size X.env = ce at I4 pg pt pk pv' ⊢
  have cL : ce.locals = s3.heap.objs.size := by subst hce; rfl
  generalize hH3 : upd H2 D o0 = H3 at I3 I4 pg pt pk pv' w0 nfp f3
  generalize hs4 : ({ s3 with heap := pushCells (s3.heap.push { cls := .type "dict", data := .dict #[] }) scope.names } : Shared) = s4 at I4 ⊢
  have st4 : tn 0 s4.heap := T.keep _ _ _ st3 fun b _ o e => by rw [← hs4]; exact pushCells_keeps _ _ _ _ (Heap.get?_push_of_some _ e)
  have stat : ∀ {σ' : St} {H' : Hp} {s' : Shared}, Inv (X.blk s3 H3 scope ce fp) [] σ' H' s' → (∀ b ∈ fp, H' b = none) → ∀ b ∈ fp, FpOk (X.blk s3 H3 scope ce fp) [] H' b := fun {σ' H' s'} I' hn b hb =>
    ⟨hn b hb, (I'.ok.exf b hb).1, I'.ok.exfs b hb, .inl hb, fun x c e => (I'.ok.exf b hb).2 x c e, fun p hp => absurd (show p ∈ ([] : List (Addr × Obj)) ++ [] from hp) (by simp)⟩
  have loop : codeAny (model X.prog X.w) X.A (.compLoop (.DictComp kx vx [⟨tg, iter, ifs, 0⟩] scope pos) 0 (.ref it) (.ref D) ce) (compPost (model X.prog X.w) X.A X.xe use Qf (.ref D) s3.heap.objs.size) s4 := by
    refine compLoopD_any (fun n s' => ∃ i H', Inv (X.blk s3 H3 scope ce fp) [] (wipe σ (own.map (·.2))) H' s' ∧ tn i s'.heap ∧ (∀ b ∈ fp, H' b = none) ∧ W i n H') ?_ m0 ⟨0, H3, I4, st4, nfp, w0⟩
    rintro n s5 ⟨i, H5, I5, st5, n5, w5⟩
    rcases turn i n H5 w5 with ⟨stop, qq⟩ | ⟨go, Nx, hNx, step⟩
    · have td := T.done (X.blk s3 H3 scope ce fp) rfl rfl rfl hc i [] s5 _ H5 (fun _ _ => False) I5 (stat I5 n5) st5 stop
      refine thnF td fun r s6 ⟨hr, I6⟩ => ?_
      subst hr
      -- back in the def's context
      have I7 : Inv X pins σ H5 s6 := I3.call' (ch := fp) I6.os I6.base I6.hok I6.bare fun b hb => ⟨(f3 b hb).1.2.2.2.1, (f3 b hb).1.2.1, (f3 b hb).1.2.2.2.2.1, (f3 b hb).1.2.2.2.2.2⟩
      have nC : H5 s3.heap.objs.size = none := by
        have z : H5 ce.locals = none := I6.free
        rw [cL] at z
        exact z
      obtain ⟨m, hn, _⟩ := I6.loc
      have hn : s6.heap.Ns ce.locals m := hn
      rw [cL] at hn
      exact hRR D s3.heap.objs.size s6 m H5 I7 qq hn (I3.fpOk (Nat.le_refl _) nC)
    · have ti := T.item (X.blk s3 H3 scope ce fp) rfl rfl rfl hc i [] s5 _ H5 (fun _ _ => False) I5 (stat I5 n5) st5 go
      refine thnF ti fun r s6 ⟨u, hr, h6⟩ => ?_
      subst hr
      refine thnF h6 fun _ s7 ⟨x, H7, I7, r7, y7, st7, n7⟩ => ?_
      have I7' := I7.pinned (stat I7 n7) (T.obj _ _ st7)
      refine thnF (pg _ s7 _ H7 x u _ I7' r7 (step x H7 y7)) fun _ s8 ⟨σ8, H8, I8, hw8, q8⟩ => ?_
      refine thnF (pt _ s8 σ8 H8 _ I8 q8) fun b s9 ⟨H9, I9, q9⟩ => ?_
      -- the turn's end
      have fin : ∀ {s' : Shared} {H' : Hp}, Inv (X.blk s3 H3 scope ce fp) ([] ++ pinsAt fp s7.heap) σ8 H' s' → Nx H' → ∃ m, m < n ∧ ∃ i H', Inv (X.blk s3 H3 scope ce fp) [] (wipe σ (own.map (·.2))) H' s' ∧ tn i s'.heap ∧ (∀ b ∈ fp, H' b = none) ∧ W i m H' := fun {s' H'} I' nx => by
        obtain ⟨m', hm, w'⟩ := hNx H' nx
        have pin' : ∀ b ∈ fp, ∀ o, s7.heap.get? b = some o → s'.heap.get? b = some o ∧ H' b = none := fun b hb o e =>
          let z := I'.pin (b, o) (List.mem_append_right _ (List.mem_append_right _ (mem_pinsAt hb e)))
          ⟨z.1, z.2.1⟩
        have hl : (wipe σ (own.map (·.2))).length = σ8.length := by rw [← hw8, wipe_length]
        refine ⟨m', hm, i + 1, H', (I'.unpinned (pins := [])).weak hl (fun j v e => ?_), T.keep _ _ _ st7 fun b hb o e => (pin' b hb o e).1, fun b hb => ?_, w'⟩
        · rw [← hw8] at e
          exact (wipe_some e).1
        · obtain ⟨o, e, _⟩ := T.obj _ _ st7 b hb
          exact (pin' b hb o e).2
      cases b with
      | false =>
        simp only [Bool.false_eq_true, if_false] at q9 ⊢
        exact fin I9 q9
      | true =>
        simp only [if_true] at q9 ⊢
        refine thnF (pk _ s9 σ8 H9 _ I9 q9) fun z s10 ⟨yv, H10, I10, r10, q10⟩ => ?_
        refine thnF (pv' _ s10 σ8 H10 _ I10 q10) fun z2 s11 ⟨zv, H11, I11, r11, H12, g12, nx⟩ => ?_
        exact d_dictSet (X := X.blk s3 H3 scope ce fp) hu I11 g12 r10 r11 fun s12 I12 => fin I12 nx
  exact codeAny_compStart_dict loop (T.self X.A 0 _ _ _ st4 loop)
/-- name = [..] on one line, the name a local -/
theorem ps_setDc {i : Nat} {y : Str} {py : Pos} {kx vx tg iter : Expr} {ifs : List Expr} {scope : Scope} {own : List (Str × Nat)} {pos spos : Pos} {wi : TI} {g : TG} {tt : TT} {tk tv : TE} {o0 : HO} (ho : o0 = .dT [] ∨ o0 = .dK []) (hu : X.A.units + 1 < cLine) (hc : X.calm = true) (hN : X.N.Nodup) (hy : X.N[i]? = some y) (hyl : X.env.scope.names.lookup y = some .local)
    (hsw : swapsWith (.DictComp kx vx [⟨tg, iter, ifs, 0⟩] scope pos) (some (.Name y py)) spos.line X.env = pure true) (hi : PI X tg iter wi) (ok : BlkOk X.N X.env.scope scope own)
    (hg : ∀ (s : Shared) (H : Hp) (C : Addr) (cl : List (Str × Addr)) (fp : List Addr), PG (X.blk s H scope (compEnvC scope cl C X.env) fp) tg g) (ht : ∀ (s : Shared) (H : Hp) (C : Addr) (cl : List (Str × Addr)) (fp : List Addr), PTs (X.blk s H scope (compEnvC scope cl C X.env) fp) ifs tt)
    (hk : ∀ (s : Shared) (H : Hp) (C : Addr) (cl : List (Str × Addr)) (fp : List Addr), PE (X.blk s H scope (compEnvC scope cl C X.env) fp) kx tk) (hv : ∀ (s : Shared) (H : Hp) (C : Addr) (cl : List (Str × Addr)) (fp : List Addr), PE (X.blk s H scope (compEnvC scope cl C X.env) fp) vx tv) (hs : ∀ x, foldedSetIterable iter X.env x = pure x := by intro _; rfl) :
    PS X (.Assign [.Name y py] (.DictComp kx vx [⟨tg, iter, ifs, 0⟩] scope pos) spos) (tAsg (tDc o0 wi g tt tk tv (own.map (·.2))) (gName i)) := by
  intro pins s σ H D I h
  rw [exec_Assign_Name_used _ _ _ _ hsw]
  refine wpAny_bind (wpAny_standAt (wpAny_bind ?_))
  show wpAny _ X.A (do let _ ← comprehension (.DictComp kx vx [⟨tg, iter, ifs, 0⟩] scope pos) scope X.env (firstIterPos [⟨tg, iter, ifs, 0⟩] pos) newDict false (eval iter X.env) (some (assign (.Name y py) X.env))) _ _ s
  have h : tDc o0 wi g tt tk tv (own.map (·.2)) σ H (fun x H1 => gName i x σ H1 D.nx) := h
  refine wpAny_bind (thn (dc_core (Qf := fun _ s' => SP X pins D .next s') ho hu hc hN I hi ok hg ht hk hv hs h fun L C s' m H' I' q hn f => ?_) fun _ s' hq => wpAny_pure (wpAny_pure hq))
  show wpAny _ _ (assign (.Name y py) X.env (.ref L)) _ _ _
  refine wpAny_assign_Name (store_ok2 (v := V.ref L) I' hN hy (.inl hyl) rfl (fun s2 I2 ⟨a, sb, ha⟩ => ?_) (.inr hyl))
  obtain ⟨f0, f1, f2, f3, f4, f5⟩ := f
  have haC : C ≠ a := by
    rcases ha with z | z
    · rw [z]; exact f1
    · exact fun e => f4 y a z e.symm
  refine ⟨m, hn.sameBut sb haC, fun h3 sb3 => ?_⟩
  exact ⟨_, H', I2.turned (t' := s2.toks) (fun b o hb e => (sb3.2 b hb).trans e) f0 f1 f3 f4 f5, q⟩
theorem sw_trueD {kx vx : Expr} {gs : List Comprehension} {scope : Scope} {pos py : Pos} {y : Str} {l : Nat} {env : Env} (hk : env.scope.kind = .function) (hy : env.scope.names.lookup y = some .local) (hl : (py.line == pos.line) = true)
    (ha : (scope.names.any fun (n, k) => n == y && (k == .local || k == .cell)) = false) : swapsWith (.DictComp kx vx gs scope pos) (some (.Name y py)) l env = pure true := by
  have ky : env.kindOf y = some .local := hy
  have hb : env.blockKind = .function := by unfold Env.blockKind; rw [hk]; rfl
  unfold swapsWith
  simp only [hb, ky, ha, Expr.pos, hl]
  rfl
end
end L2


set_option Elab.async false
set_option linter.all false
set_option maxRecDepth 100000
set_option maxHeartbeats 400000
namespace K3
open PySem L2
def top (i : Nat) : Stmt := PySem.Challenge.pw_likenest_k03_parts_inner_terms_depth_ord.main.body.getD i (.Pass ⟨0, 0, 0, 0⟩)
end K3


set_option Elab.async false
set_option linter.all false
set_option maxRecDepth 100000
set_option maxHeartbeats 800000
namespace K3
open PySem L2
abbrev sCell : Stmt := top 26
abbrev sPot : Stmt := top 27
abbrev sTake : Stmt := top 28
structure Blt (mg : Str → Option Value) : Prop where
  len : mg "len" = none
  repr : mg "repr" = none
  isi : mg "isinstance" = none
  int : mg "int" = none
  bool : mg "bool" = none
  str : mg "str" = none
  tuple : mg "tuple" = none
  all : mg "all" = none
  any : mg "any" = none
  set : mg "set" = none
  range : mg "range" = none
  mx : mg "max" = none
  mn : mg "min" = none
def spCell (K : PySem.W.Frag) : Sp := fun vs H Q _ => ∃ (a : Addr) (ns : List Int) (k : Nat), vs = [.ref a, .int k] ∧ SqL K H a (ns.map V.int) ∧ ∀ v : Int, Q (.int v) H
def spPot : Sp := fun vs H Q _ => ∃ c : Int, vs = [.int c] ∧ ∀ (p : Addr) (n : Int), H p = none → Q (.ref p) (upd H p (.lst [.int n]))
def spTake : Sp := fun vs H Q _ => ∃ (p : Addr) (n m : Int), vs = [.ref p, .int m] ∧ H p = some (.lst [.int n]) ∧ 0 < m ∧ m.natAbs.log2 < 100 ∧ Q (.int (n % m)) (upd H p (.lst [.int (n / m)]))
section
variable {P : Program} {w : World} {K : PySem.W.Frag} {mg : Str → Option Value} {base : Heap}
theorem scC : FnScope ["_law_script", "_law_k"] ["_law_script", "_law_k"] (defScope sCell) := ⟨rfl, rfl, rfl, by decide +kernel, rfl, by decide +kernel, by decide +kernel⟩
theorem ok_cell {f : Addr} {fd : FuncData} (F : Fun K "_law_cell_at" "_law_cell_at" sCell f fd) (T : Blt mg) : FnOk P w K mg base CX0 2 f fd ["_law_script", "_law_k"] (spCell K) := by
  refine F.ok scC (fun vs H Q E h => ?_) (fun cdv A outer s H vs Q E hr h => ?_)
  · obtain ⟨a, ns, k, rfl, _⟩ := h
    rfl
  · obtain ⟨a, ns, k, rfl, hS, q⟩ := h
    refine ⟨_, pss_cons (ps_if (pt_cmpR op_lt (pv 1) (pe_callB call_len_seq (by rfl) T.len PySem.boot_len (pa_cons (pv 0) pa_nil)) (nomark _)) (pss_one (ps_ret (pe_ix ix_list (pv 0) (pv 1) (fun _ _ => rfl)))) pss_nil) (pss_one (ps_ret pe_int)), ?_⟩
    refine ⟨_, rfl, _, rfl, a, _, rfl, .inl hS, _, _, rfl, rfl, _, rfl, ?_⟩
    refine ite2 (fun hlt => ?_) (fun _ => q 0)
    have hlt : (k : Int) < ((ns.map V.int).length : Int) := of_decide_eq_true hlt
    rw [List.length_map] at hlt
    have hk : k < ns.length := by omega
    refine ⟨_, rfl, _, rfl, a, _, _, _, rfl, rfl, hS, atI_nat (v := V.int ns[k]) ?_, q _⟩
    rw [List.getElem?_map, List.getElem?_eq_getElem hk]
    rfl
theorem scT : FnScope ["_law_pot_here", "_law_far", "_law_found"] ["_law_pot_here", "_law_far"] (defScope sTake) := ⟨rfl, rfl, rfl, by decide +kernel, rfl, by decide +kernel, by decide +kernel⟩
theorem ok_take {f : Addr} {fd : FuncData} (F : Fun K "_law_take" "_law_take" sTake f fd) : FnOk P w K mg base CX0 2 f fd ["_law_pot_here", "_law_far"] spTake := by
  refine F.ok scT (fun vs H Q E h => ?_) (fun cdv A outer s H vs Q E hr h => ?_)
  · obtain ⟨p, n, m, rfl, _⟩ := h
    rfl
  · obtain ⟨p, n, m, rfl, hp, h0, hl, q⟩ := h
    refine ⟨_, pss_cons (ps_set (i := 2) scT.nd rfl (Or.inl rfl) (pe_op op_mod (pe_ix ix_list (pv 0) pe_int (fun _ _ => rfl)) (pv 1)))
      (pss_cons (ps_asg (pe_op op_fdivL (pe_ix ix_list (pv 0) pe_int (fun _ _ => rfl)) (pv 1)) (pg_sub (pv 0) pe_int set_list))
      (pss_one (ps_ret (pv 2)))), ?_⟩
    refine ⟨_, rfl, p, _, _, _, rfl, rfl, SqL.of hp, rfl, _, rfl, _, _, rfl, rfl, h0, ?_⟩
    refine ⟨_, rfl, p, _, _, _, rfl, rfl, SqL.of hp, rfl, _, rfl, _, _, rfl, rfl, ⟨h0, hl⟩, ?_⟩
    exact ⟨_, rfl, p, _, _, 0, rfl, rfl, hp, rfl, _, rfl, q⟩
theorem scP : FnScope ["_law_cell", "_law_number", "_law_j", "_law_more"] ["_law_cell"] (defScope sPot) := ⟨rfl, rfl, rfl, by decide +kernel, rfl, by decide +kernel, by decide +kernel⟩
theorem ok_pot {f : Addr} {fd : FuncData} (F : Fun K "_law_pot" "_law_pot" sPot f fd) (T : Blt mg) : FnOk P w K mg base CX0 2 f fd ["_law_cell"] spPot := by
  refine F.ok scP (fun vs H Q E h => ?_) (fun cdv A outer s H vs Q E hr h => ?_)
  · obtain ⟨c, rfl, _⟩ := h
    rfl
  · obtain ⟨c, rfl, q⟩ := h
    refine ⟨_, pss_cons (ps_if (pt_cmpR op_ge (pv 0) (pe_op op_pow pe_int pe_int) (nomark _)) (pss_one (ps_ret (pe_lst (pa_cons (pe_op op_sub (pv 0) (pe_op op_pow pe_int pe_int)) pa_nil)))) pss_nil)
      (pss_cons (ps_set (i := 1) scP.nd rfl (Or.inl rfl) pe_int)
      (pss_cons (ps_for PassesOwn.never rfl (pi_range1 rfl T.range (pa_cons pe_int pa_nil)) (pg_name (i := 2) scP.nd rfl (Or.inl rfl))
        (pss_cons (ps_set (i := 3) scP.nd rfl (Or.inl rfl) (pe_op op_mod (pe_op op_mul (pe_op op_add (pe_op op_add (pe_op op_mod (pv 0) pe_int) (pe_op op_mul pe_int (pv 2))) pe_int) pe_int) pe_int))
        (pss_cons (ps_set (i := 3) scP.nd rfl (Or.inl rfl) (pe_op op_mod (pe_op op_add (pe_op op_add (pe_op op_mul (pv 3) (pv 3)) (pe_op op_mul pe_int (pv 2))) pe_int) pe_int))
        (pss_one (ps_set (i := 1) scP.nd rfl (Or.inl rfl) (pe_op op_add (pe_op op_mul (pv 1) pe_int) (pv 3)))))))
      (pss_one (ps_ret (pe_lst (pa_cons (pv 1) pa_nil)))))), ?_⟩
    refine ⟨_, rfl, _, _, rfl, rfl, ⟨by decide, by decide, by decide⟩, _, _, rfl, rfl, _, rfl, ?_⟩
    refine ite2 (fun _ => ?_) (fun _ => ?_)
    · exact ⟨_, rfl, _, _, rfl, rfl, ⟨by decide, by decide, by decide⟩, _, _, rfl, rfl, (by show 1 ≤ sizeLine; decide), fun p hp => q p _ hp⟩
    · refine ⟨64, rfl, by decide, by decide, for_range (n := 64) (fun j σ H2 => H2 = H ∧ ∃ (n : Int) (a b : Option V), σ = [some (.int c), some (.int n), a, b]) ⟨rfl, 0, none, none, rfl⟩ ?_ ?_⟩
      · rintro j σ H2 hj ⟨rfl, n, a, b, rfl⟩
        refine ⟨_, rfl, _, _, rfl, rfl, (by show (0 : Int) < 2147483629; decide), _, rfl, _, _, rfl, rfl, .inl ⟨by decide, by decide⟩, _, _, rfl, rfl, _, _, rfl, rfl, _, _, rfl, rfl, .inr ⟨by decide, by decide⟩, _, _, rfl, rfl, (by show (0 : Int) < 2147483647; decide), ?_⟩
        have b0 := Int.emod_nonneg ((c % 2147483629 + 7919 * (0 + (j : Int)) + 1) * 48271) (b := 2147483647) (by decide)
        have b1 := Int.emod_lt_of_pos ((c % 2147483629 + 7919 * (0 + (j : Int)) + 1) * 48271) (b := 2147483647) (by decide)
        refine ⟨_, rfl, _, rfl, _, _, rfl, rfl, .inl ⟨by omega, by omega⟩, _, rfl, _, _, rfl, rfl, .inl ⟨by decide, by decide⟩, _, _, rfl, rfl, _, _, rfl, rfl, _, _, rfl, rfl, (by show (0 : Int) < 2147483587; decide), ?_⟩
        exact ⟨_, rfl, _, _, rfl, rfl, .inr ⟨by decide, by decide⟩, _, rfl, _, _, rfl, rfl, rfl, _, _, _, rfl⟩
      · rintro σ H2 ⟨rfl, n, a, b, rfl⟩
        exact ⟨_, rfl, (by show 1 ≤ sizeLine; decide), fun p hp => q p _ hp⟩
end
end K3


set_option Elab.async false
set_option linter.all false
set_option maxRecDepth 100000
set_option maxHeartbeats 800000
namespace K3
open PySem L2 LN
abbrev sWhole : Stmt := top 9
abbrev sName : Stmt := top 10
abbrev sSign : Stmt := top 11
theorem kit_ii {K : PySem.W.Frag} : PySem.W.kitOne K (.type "int") (.type "int") = some true := by kernel_rfl
theorem kit_ib {K : PySem.W.Frag} : PySem.W.kitOne K (.type "int") (.type "bool") = some false := by kernel_rfl
theorem kit_ss {K : PySem.W.Frag} : PySem.W.kitOne K (.type "str") (.type "str") = some true := by kernel_rfl
theorem kit_tt {K : PySem.W.Frag} : PySem.W.kitOne K (.type "tuple") (.type "tuple") = some true := by kernel_rfl
abbrev CstI (mg : Str → Option Value) (x : Str) (i : Int) : Prop := ∃ u, mg x = some u ∧ RelV (.int i) u
structure Cst (mg : Str → Option Value) : Prop where
  si : CstI mg "MOST_SIGNS" 8
  le : CstI mg "MOST_LETTERS" 6
  pa : CstI mg "MOST_PARTS" 3
  nu : CstI mg "MOST_NUMBERS" 30
/-- what a def is known by where it is called -/
structure Known (P : Program) (w : World) (K : PySem.W.Frag) (mg : Str → Option Value) (base : Heap) (CX : CXT) (k : Nat) (x : Str) (f : Addr) (fd : FuncData) (ps : List Str) (sp : Sp) : Prop where
  G : FnOk P w K mg base CX k f fd ps sp
  m : mg x = some (.ref f)
  k : PySem.W.keepIn K (.ref f) = true
  b : Binds K fd ps []
def spWhole : Sp := fun vs H Q _ => ∃ n : Int, vs = [.int n] ∧ Q (.bl true) H
def spName : Sp := fun vs H Q _ => ∃ x : Str, vs = [.str x] ∧ NmOk x ∧ ∀ H', Same H H' → Q (.bl true) H'
def spSign : Sp := fun vs H Q _ => ∃ (p : Addr) (k : Str × Nat), vs = [.ref p] ∧ PairAt H p k ∧ NmOk k.1 ∧ k.2 ≤ 3 ∧ ∀ H', Same H H' → Q (.bl true) H'
theorem le_a {c : Nat} (h : 97 ≤ c) : (!decide ((⟨#[c]⟩ : Str).cps.toList < ("a" : Str).cps.toList)) = true := by
  have : ¬ ((⟨#[c]⟩ : Str).cps.toList < ("a" : Str).cps.toList) := by
    show ¬ ([c] < [97])
    intro z
    cases z with
    | rel z => omega
    | cons z => cases z
  rw [decide_eq_false this]
  rfl
theorem le_z {c : Nat} (h : c ≤ 122) : (!decide (("z" : Str).cps.toList < (⟨#[c]⟩ : Str).cps.toList)) = true := by
  have : ¬ (("z" : Str).cps.toList < (⟨#[c]⟩ : Str).cps.toList) := by
    show ¬ ([122] < [c])
    intro z
    cases z with
    | rel z => omega
    | cons z => cases z
  rw [decide_eq_false this]
  rfl
section
variable {P : Program} {w : World} {K : PySem.W.Frag} {mg : Str → Option Value} {base : Heap}
theorem scWh : FnScope ["thing"] ["thing"] (defScope sWhole) := ⟨rfl, rfl, rfl, by decide +kernel, rfl, by decide +kernel, by decide +kernel⟩
theorem ok_whole {f : Addr} {fd : FuncData} (F : Fun K "is_whole" "is_whole" sWhole f fd) (T : Blt mg) : FnOk P w K mg base CX0 2 f fd ["thing"] spWhole := by
  refine F.ok scWh (fun vs H Q E h => ?_) (fun cdv A outer s H vs Q E hr h => ?_)
  · obtain ⟨n, rfl, _⟩ := h
    rfl
  · obtain ⟨n, rfl, q⟩ := h
    refine ⟨_, pss_one (ps_ret (pe_and (pe_isiT (n := "int") (pv 0) (by rfl) T.isi (by rfl) T.int (by decide +kernel)) (pe_one (pe_not (pe_isiT (n := "bool") (pv 0) (by rfl) T.isi (by rfl) T.bool (by decide +kernel)))))), ?_⟩
    refine ⟨_, rfl, _, _, _, _, _, rfl, .old (.int n), rfl, kit_ii, _, rfl, iteT ?_⟩
    exact ⟨_, rfl, _, _, _, _, _, rfl, .old (.int n), rfl, kit_ib, _, rfl, q⟩
theorem scNm : FnScope ["thing", "letter"] ["thing"] (defScope sName) := ⟨rfl, rfl, rfl, by decide +kernel, rfl, by decide +kernel, by decide +kernel⟩
theorem ok_name {f : Addr} {fd : FuncData} (F : Fun K "is_name" "is_name" sName f fd) (T : Blt mg) (C : Cst mg) : FnOk P w K mg base CX0 2 f fd ["thing"] spName := by
  refine F.ok scNm (fun vs H Q E h => ?_) (fun cdv A outer s H vs Q E hr h => ?_)
  · obtain ⟨n, rfl, _⟩ := h
    rfl
  · obtain ⟨x, rfl, hx, q⟩ := h
    obtain ⟨u6, hm6, r6⟩ := C.le
    refine ⟨_, pss_cons (ps_if (PW.pt (pw_or (pt_not (pt_val (pe_isiT (n := "str") (pv 0) (by rfl) T.isi (by rfl) T.str (by decide +kernel))))
        (pw_or1 (pt_not (pt_chain op_le op_le pe_int (pe_callB call_len_str (by rfl) T.len PySem.boot_len (pa_cons (pv 0) pa_nil)) (pe_glob (v := .int 6) (by rfl) hm6 r6)))))) (pss_one (ps_ret pe_bl)) pss_nil)
      (pss_one (ps_ret (pe_callB (cr_all rfl) (by rfl) T.all (by decide +kernel) (pa_cons (pe_lc (own := [("letter", 1)]) (g := gName 1) (by rfl) scNm.nd (pi_str (pv 0)) (blkOk_by (own := [("letter", 1)]) (N := ["thing", "letter"]) (sc := defScope sName) (by decide +kernel))
        (fun _ _ _ _ _ => pg_name (i := 1) scNm.nd rfl (Or.inl rfl)) (fun _ _ _ _ _ => pts_nil) (fun _ _ _ _ _ => pe_chain op_le_str op_le_str pe_str (pv 1) pe_str)) pa_nil)))), ?_⟩
    obtain ⟨h1, h6, hc⟩ := hx
    have hz : x.length ≤ sizeLine := Nat.le_trans h6 (by decide)
    refine ⟨_, rfl, _, _, _, _, _, rfl, .old (.str x), rfl, kit_ss, _, rfl, ?_⟩
    refine iteF ⟨_, rfl, _, rfl, hz, _, _, rfl, rfl, _, rfl, ?_⟩
    rw [decide_eq_true (show (1 : Int) ≤ (x.length : Int) by omega)]
    refine iteT ⟨_, _, rfl, rfl, _, rfl, ?_⟩
    rw [decide_eq_true (show (x.length : Int) ≤ (6 : Int) by omega)]
    refine iteF ?_
    refine ⟨_, rfl, x, rfl, fun D hD => ?_⟩
    refine lc_str (x := x) (fun i H2 => H2 = upd H D (.lst (List.replicate i (.bl true)))) rfl ?_ ?_
    · rintro i c H2 hi rfl
      have hcm : c ∈ x.cps.toList := by
        rw [← Array.getElem?_toList] at hi
        exact List.mem_of_getElem? hi
      obtain ⟨c1, c2⟩ := hc c hcm
      refine ⟨rfl, ?_⟩
      unfold tYes
      refine iteT ?_
      refine ⟨_, rfl, _, _, rfl, rfl, _, rfl, ?_⟩
      rw [le_a c1]
      refine iteT ⟨_, _, rfl, rfl, ?_⟩
      rw [le_z c2]
      have hi6 : i < 6 := by
        have := (List.getElem?_eq_some_iff.mp (show x.cps.toList[i]? = some c by rw [Array.getElem?_toList]; exact hi)).1
        have e : x.cps.toList.length = x.length := rfl
        omega
      refine ⟨_, upd_same, by rw [List.length_replicate]; exact small1000 (by omega), ?_⟩
      rw [upd_upd, List.replicate_succ']
    · rintro H2 rfl
      refine ⟨D, List.replicate x.cps.size true, rfl, SqL.of (by rw [upd_same, List.map_replicate]), ?_⟩
      have e : (List.replicate x.cps.size true).all id = true := by simp
      rw [e]
      exact q _ (same_new hD)
theorem scSg : FnScope ["thing", "name", "parts"] ["thing"] (defScope sSign) := ⟨rfl, rfl, rfl, by decide +kernel, rfl, by decide +kernel, by decide +kernel⟩
theorem ok_sign {f fW fN : Addr} {fd fdW fdN : FuncData} (F : Fun K "is_sign" "is_sign" sSign f fd) (T : Blt mg) (C : Cst mg) (W : Known P w K mg base CX0 2 "is_whole" fW fdW ["thing"] spWhole) (N : Known P w K mg base CX0 2 "is_name" fN fdN ["thing"] spName) : FnOk P w K mg base CX0 3 f fd ["thing"] spSign := by
  refine F.ok scSg (fun vs H Q E h => ?_) (fun cdv A outer s H vs Q E hr h => ?_)
  · obtain ⟨n, k, rfl, _⟩ := h
    rfl
  · obtain ⟨p, ⟨x, n⟩, rfl, hp, hx, hn, q⟩ := h
    obtain ⟨u3, hm3, r3⟩ := C.pa
    refine ⟨_, pss_cons (ps_if (PW.pt (pw_or (pt_not (pt_val (pe_isiT (n := "tuple") (pv 0) (by rfl) T.isi (by rfl) T.tuple (by decide +kernel))))
        (pw_or1 (pt_cmpR op_ne (pe_callB call_len_seq (by rfl) T.len PySem.boot_len (pa_cons (pv 0) pa_nil)) pe_int (nomark _))))) (pss_one (ps_ret pe_bl)) pss_nil)
      (pss_cons (ps_asg (pv 0) (pg_tup (by rfl) (pgs_cons (pg_name (i := 1) scSg.nd rfl (Or.inl rfl)) (pgs_cons (pg_name (i := 2) scSg.nd rfl (Or.inl rfl)) pgs_nil))))
      (pss_one (ps_ret (pe_and (pe_call N.G hr (by rfl) N.m N.k N.b .nil pass0 (pa_cons (pv 1) pa_nil)) (pe_and (pe_call W.G hr (by rfl) W.m W.k W.b .nil pass0 (pa_cons (pv 2) pa_nil)) (pe_one (pe_chain op_le op_le pe_int (pv 2) (pe_glob (v := .int 3) (by rfl) hm3 r3)))))))), ?_⟩
    refine ⟨_, rfl, _, _, _, _, _, rfl, .old (.tup hp), rfl, kit_tt, _, rfl, ?_⟩
    refine iteF ⟨_, rfl, _, _, rfl, .inr (SqT.of hp), rfl, _, rfl, ?_⟩
    refine iteF ?_
    refine ⟨_, rfl, p, _, rfl, SqT.of hp, rfl, _, _, rfl, _, _, rfl, rfl, ?_⟩
    refine ⟨_, rfl, x, rfl, hx, fun H' S => ⟨_, rfl, iteT ?_⟩⟩
    refine ⟨_, rfl, _, rfl, _, rfl, iteT ?_⟩
    refine ⟨_, rfl, _, _, rfl, rfl, _, rfl, ?_⟩
    rw [decide_eq_true (show (0 : Int) ≤ ((n : Nat) : Int) by omega)]
    refine iteT ⟨_, _, rfl, rfl, ?_⟩
    show Q (.bl (decide (((n : Nat) : Int) ≤ (3 : Int)))) H'
    rw [decide_eq_true (show ((n : Nat) : Int) ≤ (3 : Int) by have : n ≤ 3 := hn; omega)]
    exact q _ S
end
end K3


set_option Elab.async false
set_option linter.all false
set_option maxRecDepth 100000
set_option maxHeartbeats 800000
namespace K3
open PySem L2 LN
abbrev sSigns : Stmt := top 12
abbrev sCkS : Stmt := top 13
abbrev sMakes : Stmt := top 14
abbrev sCkT : Stmt := top 15
def spSigns : Sp := fun vs H Q _ => ∃ (a : Addr) (ks : KS), vs = [.ref a] ∧ KAt H a ks ∧ KOk ks ∧ ∀ H', Same H H' → Q (.bl true) H'
def spCkS : Sp := fun vs H Q _ => ∃ (a : Addr) (ks : KS), vs = [.ref a] ∧ KAt H a ks ∧ KOk ks ∧ ∀ H', Same H H' → Q .non H'
def spMakes : Sp := fun vs H Q _ => ∃ (a t : Addr) (ks : KS) (ns : List Nat), vs = [.ref a, .ref t] ∧ KAt H a ks ∧ KOk ks ∧ TAt H t ns ∧ TOk ks ns ∧ Q (.bl true) H
def spCkT : Sp := fun vs H Q _ => ∃ (a t : Addr) (ks : KS) (ns : List Nat) (z : Int), vs = [.ref a, .ref t, .int z] ∧ KAt H a ks ∧ KOk ks ∧ TAt H t ns ∧ TOk ks ns ∧ Q .non H
section
variable {P : Program} {w : World} {K : PySem.W.Frag} {mg : Str → Option Value} {base : Heap}
abbrev NS : List Str := ["thing", "sign", "name", "parts"]
theorem scSs : FnScope NS ["thing"] (defScope sSigns) := ⟨rfl, rfl, rfl, by decide +kernel, rfl, by decide +kernel, by decide +kernel⟩
theorem ok_signs {f fS : Addr} {fd fdS : FuncData} (F : Fun K "are_signs" "are_signs" sSigns f fd) (T : Blt mg) (C : Cst mg) (S : Known P w K mg base CX0 3 "is_sign" fS fdS ["thing"] spSign) : FnOk P w K mg base CX0 4 f fd ["thing"] spSigns := by
  refine F.ok scSs (fun vs H Q E h => ?_) (fun cdv A outer s H vs Q E hr h => ?_)
  · obtain ⟨n, k, rfl, _⟩ := h
    rfl
  · obtain ⟨a, ks, rfl, ⟨ps, ha, hps⟩, hk, q⟩ := h
    obtain ⟨u8, hm8, r8⟩ := C.si
    refine ⟨_, pss_cons (ps_if (PW.pt (pw_or (pt_not (pt_val (pe_isiT (n := "tuple") (pv 0) (by rfl) T.isi (by rfl) T.tuple (by decide +kernel))))
        (pw_or1 (pt_not (pt_chain op_le op_le pe_int (pe_callB call_len_seq (by rfl) T.len PySem.boot_len (pa_cons (pv 0) pa_nil)) (pe_glob (v := .int 8) (by rfl) hm8 r8)))))) (pss_one (ps_ret pe_bl)) pss_nil)
      (pss_cons (ps_if (pt_not (pt_val (pe_callB (cr_all rfl) (by rfl) T.all (by decide +kernel) (pa_cons
          (pe_lc (own := [("sign", 1)]) (g := gName 1) (by rfl) scSs.nd (pi_tup (pv 0)) (blkOk_by (own := [("sign", 1)]) (N := NS) (sc := defScope sSigns) (by decide +kernel)) (fun _ _ _ _ _ => pg_name (i := 1) scSs.nd rfl (Or.inl rfl)) (fun _ _ _ _ _ => pts_nil)
            (fun _ _ _ _ _ => pe_call S.G hr (by rfl) S.m S.k S.b .nil pass0 (pa_cons (pv 1) pa_nil))) pa_nil)))) (pss_one (ps_ret pe_bl)) pss_nil)
      (pss_cons (ps_if (pt_cmpR op_ne (pe_callB call_lenS (by rfl) T.len PySem.boot_len (pa_cons (pe_callTy (call_setS rfl) (by rfl) T.set (by decide +kernel) (pa_cons
          (pe_lc (own := [("name", 2), ("parts", 3)]) (g := gTup K 2 (gCons (gName 2) (gCons (gName 3) gNil))) (by rfl) scSs.nd (pi_tup (pv 0)) (blkOk_by (own := [("name", 2), ("parts", 3)]) (N := NS) (sc := defScope sSigns) (by decide +kernel))
            (fun _ _ _ _ _ => pg_tup (by rfl) (pgs_cons (pg_name (i := 2) scSs.nd rfl (Or.inl rfl)) (pgs_cons (pg_name (i := 3) scSs.nd rfl (Or.inl rfl)) pgs_nil))) (fun _ _ _ _ _ => pts_nil) (fun _ _ _ _ _ => pv 2)) pa_nil)) pa_nil))
          (pe_callB call_len_seq (by rfl) T.len PySem.boot_len (pa_cons (pv 0) pa_nil)) (nomark _)) (pss_one (ps_ret pe_bl)) pss_nil)
      (pss_one (ps_ret (pe_callB (cr_any rfl) (by rfl) T.any (by decide +kernel) (pa_cons
          (pe_lc (own := [("name", 2), ("parts", 3)]) (g := gTup K 2 (gCons (gName 2) (gCons (gName 3) gNil))) (by rfl) scSs.nd (pi_tup (pv 0)) (blkOk_by (own := [("name", 2), ("parts", 3)]) (N := NS) (sc := defScope sSigns) (by decide +kernel))
            (fun _ _ _ _ _ => pg_tup (by rfl) (pgs_cons (pg_name (i := 2) scSs.nd rfl (Or.inl rfl)) (pgs_cons (pg_name (i := 3) scSs.nd rfl (Or.inl rfl)) pgs_nil))) (fun _ _ _ _ _ => pts_nil) (fun _ _ _ _ _ => pe_cmpR op_eq (pv 3) pe_int (nomark _))) pa_nil)))))), ?_⟩
    have hl : ps.length = ks.length := Paired.length hps
    have hl1 := hk.pos
    have hl8 := hk.le8
    have hT : SqT K H a (ps.map V.ref) := SqT.of ha
    refine ⟨_, rfl, _, _, _, _, _, rfl, .old (.tup ha), rfl, kit_tt, _, rfl, ?_⟩
    refine iteF ⟨_, rfl, _, _, rfl, .inr hT, _, _, rfl, rfl, _, rfl, ?_⟩
    rw [List.length_map, decide_eq_true (show (1 : Int) ≤ (ps.length : Int) by omega)]
    refine iteT ⟨_, _, rfl, rfl, _, rfl, ?_⟩
    rw [decide_eq_true (show (ps.length : Int) ≤ (8 : Int) by omega)]
    refine iteF ?_
    have go : ∀ (H' : Hp), Same H H' → ∀ (i : Nat) (x : V), (ps.map V.ref)[i]? = some x → ∃ (p : Addr) (k : Str × Nat), x = .ref p ∧ ks[i]? = some k ∧ PairAt H' p k ∧ k ∈ ks := by
      intro H' S' i x hx
      rw [List.getElem?_map] at hx
      obtain ⟨p, hp, rfl⟩ := Option.map_eq_some_iff.mp hx
      obtain ⟨k, hk', hpk⟩ := paired_at i hps hp
      exact ⟨p, k, rfl, hk', S' _ _ hpk, List.mem_of_getElem? hk'⟩
    refine ⟨_, rfl, a, rfl, ⟨_, hT⟩, fun D hD => ?_⟩
    refine lc_valsT (xs := ps.map V.ref) (ys := List.replicate ks.length (.bl true)) hD (by rw [List.length_map]; omega) (by rw [List.length_map, List.length_replicate, hl]) hT ?_ ?_
    · intro i x y H1 Q' hx hy S1 k
      obtain ⟨p, kk, rfl, e, hp, hm⟩ := go H1 S1 i x hx
      obtain rfl := (List.mem_replicate.mp (List.mem_of_getElem? hy)).2
      exact ⟨rfl, _, rfl, p, kk, rfl, hp, hk.nm _ hm, hk.ar _ hm, k⟩
    intro H1 S1 hD1
    refine ⟨D, List.replicate ks.length true, rfl, SqL.of (by rw [hD1, List.map_replicate]), _, rfl, ?_⟩
    rw [show (List.replicate ks.length true).all id = true by simp]
    refine iteF ?_
    refine ⟨_, rfl, a, rfl, ⟨_, S1.seqT hT⟩, fun D2 hD2 => ?_⟩
    refine lc_valsT (xs := ps.map V.ref) (ys := (ks.map (·.1)).map V.str) hD2 (by rw [List.length_map]; omega) (by rw [List.length_map, List.length_map, List.length_map, hl]) (S1.seqT hT) ?_ ?_
    · intro i x y H2 Q' hx hy S2 k
      obtain ⟨p, kk, rfl, e, hp, hm⟩ := go H2 (S1.trans S2) i x hx
      rw [List.getElem?_map, List.getElem?_map, e] at hy
      cases hy
      exact ⟨p, _, rfl, SqT.of hp, rfl, _, _, rfl, _, _, rfl, rfl, rfl, _, rfl, k _ (Same.refl _)⟩
    intro H2 S2 hD2'
    refine ⟨D2, ks.map (·.1), rfl, SqL.of hD2', hk.nd, by rw [List.length_map]; omega, fun p hp => ?_⟩
    refine ⟨p, _, rfl, upd_same, by rw [List.length_map]; omega, _, rfl, a, _, rfl, .inr (((S1.trans S2).trans (same_new hp)).seqT hT), rfl, _, rfl, ?_⟩
    rw [List.length_map, List.length_map, hl, decide_eq_true rfl]
    refine iteF ?_
    have S3 : Same H (upd H2 p (SetN p (ks.map (·.1)).length)) := (S1.trans S2).trans (same_new hp)
    rw [List.length_map] at S3
    refine ⟨_, rfl, a, rfl, ⟨_, S3.seqT hT⟩, fun D3 hD3 => ?_⟩
    refine lc_valsT (xs := ps.map V.ref) (ys := (ks.map fun k => decide (nV k.2 = V.int 0)).map V.bl) hD3 (by rw [List.length_map]; omega) (by rw [List.length_map, List.length_map, List.length_map, hl]) (S3.seqT hT) ?_ ?_
    · intro i x y H3 Q' hx hy S4 k
      obtain ⟨p, kk, rfl, e, hp, hm⟩ := go H3 (S3.trans S4) i x hx
      rw [List.getElem?_map, List.getElem?_map, e] at hy
      cases hy
      exact ⟨p, _, rfl, SqT.of hp, rfl, _, _, rfl, _, _, rfl, rfl, rfl, _, rfl, rfl, k _ (Same.refl _)⟩
    intro H3 S4 hD3'
    refine ⟨D3, ks.map fun k => decide (nV k.2 = V.int 0), rfl, SqL.of hD3', ?_⟩
    have e : (ks.map fun k => decide (nV k.2 = V.int 0)).any id = true := by
      obtain ⟨k, h1, h2⟩ := hk.z
      rw [List.any_eq_true]
      refine ⟨true, List.mem_map.mpr ⟨k, h1, ?_⟩, rfl⟩
      rw [h2]
      rfl
    rw [e]
    exact q _ (S3.trans S4)
theorem scCS : FnScope ["signs"] ["signs"] (defScope sCkS) := ⟨rfl, rfl, rfl, by decide +kernel, rfl, by decide +kernel, by decide +kernel⟩
theorem ok_cks {f fS : Addr} {fd fdS : FuncData} (F : Fun K "check_signs" "check_signs" sCkS f fd) (S : Known P w K mg base CX0 4 "are_signs" fS fdS ["thing"] spSigns) : FnOk P w K mg base CX0 5 f fd ["signs"] spCkS := by
  refine F.ok scCS (fun vs H Q E h => ?_) (fun cdv A outer s H vs Q E hr h => ?_)
  · obtain ⟨n, k, rfl, _⟩ := h
    rfl
  · obtain ⟨a, ks, rfl, ha, hk, q⟩ := h
    refine ⟨_, pss_one (ps_if (pt_not (pt_val (pe_call S.G hr (by rfl) S.m S.k S.b .nil pass0 (pa_cons (pv 0) pa_nil)))) (pss_one ps_never) pss_nil), ?_⟩
    exact ⟨_, rfl, a, ks, rfl, ha, hk, fun H' S' => ⟨_, rfl, iteF (q H' S')⟩⟩
theorem scMk : FnScope ["signs", "thing", "wanted", "number"] ["signs", "thing"] (defScope sMakes) := ⟨rfl, rfl, rfl, by decide +kernel, rfl, by decide +kernel, by decide +kernel⟩
theorem ok_makes {f fW : Addr} {fd fdW : FuncData} (F : Fun K "makes_term" "makes_term" sMakes f fd) (T : Blt mg) (C : Cst mg) (W : Known P w K mg base CX0 2 "is_whole" fW fdW ["thing"] spWhole) : FnOk P w K mg base CX0 3 f fd ["signs", "thing"] spMakes := by
  refine F.ok scMk (fun vs H Q E h => ?_) (fun cdv A outer s H vs Q E hr h => ?_)
  · obtain ⟨a, t, ks, ns, rfl, _⟩ := h
    rfl
  · obtain ⟨a, t, ks, ns, rfl, ha, hk, ht, ok, q⟩ := h
    obtain ⟨u30, hm30, r30⟩ := C.nu
    refine ⟨_, pss_cons (ps_if (PW.pt (pw_or (pt_not (pt_val (pe_isiT (n := "tuple") (pv 1) (by rfl) T.isi (by rfl) T.tuple (by decide +kernel))))
        (pw_or1 (pt_not (pt_chain op_le op_le pe_int (pe_callB call_len_seq (by rfl) T.len PySem.boot_len (pa_cons (pv 1) pa_nil)) (pe_glob (v := .int 30) (by rfl) hm30 r30)))))) (pss_one (ps_ret pe_bl)) pss_nil)
      (pss_cons (ps_set (i := 2) scMk.nd rfl (Or.inl rfl) pe_int)
      (pss_cons (ps_for PassesOwn.never rfl (pi_tup (pv 1)) (pg_name (i := 3) scMk.nd rfl (Or.inl rfl))
        (pss_cons (ps_if (PW.pt (pw_or (pt_cmpR op_eq (pv 2) pe_int (nomark _)) (pw_or (pt_not (pt_val (pe_call W.G hr (by rfl) W.m W.k W.b .nil pass0 (pa_cons (pv 3) pa_nil))))
          (pw_or1 (pt_not (pt_chain op_le op_lt pe_int (pv 3) (pe_callB call_len_seq (by rfl) T.len PySem.boot_len (pa_cons (pv 0) pa_nil)))))))) (pss_one (ps_ret pe_bl)) pss_nil)
        (pss_one (ps_aug (i := 2) scMk.nd rfl (Or.inl rfl) (pe_op op_sub (pe_ix ix_tup (pe_ix ix_tup (pv 0) (pv 3) (fun _ _ => rfl)) pe_int (fun _ _ => rfl)) pe_int) ip_add))))
      (pss_one (ps_ret (pe_cmpR op_eq (pv 2) pe_int (nomark _)))))), ?_⟩
    have h1 := ok.pos
    have h30 := ok.le
    have hT : SqT K H t (ns.map nV) := SqT.of ht
    refine ⟨_, rfl, _, _, _, _, _, rfl, .old (.tup ht), rfl, kit_tt, _, rfl, ?_⟩
    refine iteF ⟨_, rfl, _, _, rfl, .inr hT, _, _, rfl, rfl, _, rfl, ?_⟩
    rw [List.length_map, decide_eq_true (show (1 : Int) ≤ (ns.length : Int) by omega)]
    refine iteT ⟨_, _, rfl, rfl, _, rfl, ?_⟩
    rw [decide_eq_true (show (ns.length : Int) ≤ (30 : Int) by omega)]
    refine iteF ?_
    refine ⟨_, rfl, t, rfl, ⟨_, hT⟩, ?_⟩
    refine for_tup (K := K) (xs := ns.map nV) (fun i σ H2 => H2 = H ∧ ∃ (wd : Nat) (o : Option V), rem wd ((arL ks ns).drop i) = some [] ∧ σ = [some (.ref a), some (.ref t), some (nV wd), o]) ⟨rfl, 1, none, ok.rem, rfl⟩ ?_ ?_ ?_
    · rintro i σ H2 _ ⟨rfl, _⟩
      exact hT
    · rintro i x σ H2 hx ⟨rfl, wd, o, hw, rfl⟩
      rw [List.getElem?_map] at hx
      obtain ⟨n, hn, rfl⟩ := Option.map_eq_some_iff.mp hx
      obtain ⟨hi, rfl⟩ := List.getElem?_eq_some_iff.mp hn
      have hlt := ok.lt _ (List.getElem_mem hi)
      rw [arL_at hi] at hw
      cases wd with
      | zero => rw [rem_zero] at hw; cases hw
      | succ wd =>
        rw [rem_cons] at hw
        obtain ⟨ps, qq, x, e1, e2, e3, e4, e5⟩ := ha.at hlt
        refine ⟨_, rfl, rfl, _, rfl, ?_⟩
        rw [decide_eq_false (show ¬ (nV (wd + 1) = V.int 0) by intro z; injection z; omega)]
        refine iteF ⟨_, rfl, _, rfl, _, rfl, iteF ⟨_, rfl, _, _, rfl, rfl, _, rfl, ?_⟩⟩
        rw [decide_eq_true (show (0 : Int) ≤ ((ns[i] : Nat) : Int) by omega)]
        refine iteT ⟨_, rfl, a, _, rfl, .inr (SqT.of e1), _, _, rfl, rfl, _, rfl, ?_⟩
        rw [List.length_map, e2, decide_eq_true (show ((ns[i] : Nat) : Int) < (ks.length : Int) by omega)]
        refine iteF ?_
        refine ⟨_, rfl, _, rfl, _, rfl, a, _, _, _, rfl, rfl, SqT.of e1, e3, qq, _, _, _, rfl, rfl, SqT.of e4, rfl, _, _, rfl, rfl, _, _, rfl, rfl, rfl, wd + arN ks ns[i], some (nV ns[i]), hw, ?_⟩
        show [some (V.ref a), some (V.ref t), some (V.int (((wd + 1 : Nat) : Int) + (((arN ks ns[i] : Nat) : Int) - 1))), some (nV ns[i])] = _
        rw [show ((wd + 1 : Nat) : Int) + (((arN ks ns[i] : Nat) : Int) - 1) = ((wd + arN ks ns[i] : Nat) : Int) by omega]
    · rintro σ H2 ⟨rfl, wd, o, hw, rfl⟩
      rw [List.length_map, List.drop_eq_nil_of_le (by simp)] at hw
      cases wd with
      | succ wd => rw [rem_nil] at hw; cases hw
      | zero => exact ⟨_, rfl, rfl, q⟩
/-- a def with defaults -/
structure FunD (K : PySem.W.Frag) (x qual : Str) (st : Stmt) (f : Addr) (fd : FuncData) : Prop where
  ex : ∃ (oc : Value) (od : Option Addr) (dV kV doc pm : Value) (an : Option Addr) (cdv ct : Value) (osl : Array (Option Value)),
    fd = PySem.W.fnOf x qual (defArgs st) (defBody st) (defScope st) dV kV doc pm an cdv ct ∧ K.lookup f = some ⟨oc, od, .func fd, osl⟩ ∧ PySem.W.codeIn K cdv qual = true
theorem FunD.ok {x qual : Str} {st : Stmt} {f : Addr} {fd : FuncData} {N ps : List Str} {k : Nat} {sp : Sp} (F : FunD K x qual st f fd) (S : FnScope N ps (defScope st)) (len : ∀ vs H Q E, sp vs H Q E → vs.length = ps.length)
    (hbody : ∀ (cdv : Value) (A : Around) (outer : List Env) (s : Shared) (H : Hp) (vs : List V) (Q : VK) (E : XK), Room (k + 1) (A.deeper (PyProof.Rows.envOfC qual (defScope st) s.heap.objs.size f cdv)) → sp vs H Q E →
      ∃ t, PSs (cxOf CX0 P w K mg base N qual (defScope st) f cdv A outer s H E).nox (defBody st) t ∧ t { nx := fun _ H' => Q .non H', rt := Q } (start N vs) H) : FnOk P w K mg base CX0 (k + 2) f fd ps sp := by
  obtain ⟨oc, od, dV, kV, doc, pm, an, cdv, ct, osl, rfl, lk, hcd⟩ := F.ex
  refine fn_of lk hcd S len fun A outer s H vs Q E hr hsp => ?_
  obtain ⟨t, h, q⟩ := hbody cdv A outer s H vs Q E hr hsp
  exact ⟨t, h.nox, q⟩
theorem scCT : FnScope ["signs", "term", "at"] ["signs", "term", "at"] (defScope sCkT) := ⟨rfl, rfl, rfl, by decide +kernel, rfl, by decide +kernel, by decide +kernel⟩
theorem ok_ckt {f fM : Addr} {fd fdM : FuncData} (F : FunD K "check_term" "check_term" sCkT f fd) (M : Known P w K mg base CX0 3 "makes_term" fM fdM ["signs", "thing"] spMakes) : FnOk P w K mg base CX0 4 f fd ["signs", "term", "at"] spCkT := by
  refine F.ok scCT (fun vs H Q E h => ?_) (fun cdv A outer s H vs Q E hr h => ?_)
  · obtain ⟨n, k, _, _, _, rfl, _⟩ := h
    rfl
  · obtain ⟨a, t, ks, ns, z, rfl, ha, hk, ht, ok, q⟩ := h
    refine ⟨_, pss_one (ps_if (pt_not (pt_val (pe_call M.G hr (by rfl) M.m M.k M.b .nil pass0 (pa_cons (pv 0) (pa_cons (pv 1) pa_nil))))) (pss_one ps_never) pss_nil), ?_⟩
    exact ⟨_, rfl, _, rfl, a, t, ks, ns, rfl, ha, hk, ht, ok, _, rfl, iteF q⟩
end
end K3


set_option Elab.async false
set_option linter.all false
set_option maxRecDepth 100000
set_option maxHeartbeats 800000
namespace K3
open PySem L2 LN
abbrev sEnds : Stmt := top 16
def Ends_ (ks : KS) (ns es : List Nat) : Prop := es.length = ns.length ∧ ∀ i, i < ns.length → EndAt (arL ks ns) i (es.getD i 0)
def spEnds : Sp := fun vs H Q _ => ∃ (a t : Addr) (ks : KS) (ns : List Nat), vs = [.ref a, .ref t] ∧ KAt H a ks ∧ KOk ks ∧ TAt H t ns ∧ TOk ks ns ∧ ∀ (l : Addr) (es : List Nat) (H' : Hp), Same H H' → H' l = some (.lst (es.map nV)) → Ends_ ks ns es → Q (.ref l) H'
section
variable {P : Program} {w : World} {K : PySem.W.Frag} {mg : Str → Option Value} {base : Heap}
theorem scEn : FnScope ["signs", "term", "ends", "place", "end", "part"] ["signs", "term"] (defScope sEnds) := ⟨rfl, rfl, rfl, by decide +kernel, rfl, by decide +kernel, by decide +kernel⟩
theorem flat0 (n : Nat) : (List.replicate n [V.int 0]).flatten = (List.replicate n 0).map nV := by
  induction n with
  | zero => rfl
  | succ n ih => rw [List.replicate_succ, List.flatten_cons, ih, List.replicate_succ]; rfl
theorem getD_map {es : List Nat} {i : Nat} (h : i < es.length) : (es.map nV)[i]? = some (nV (es.getD i 0)) := by
  rw [List.getElem?_map, List.getD_eq_getElem?_getD, List.getElem?_eq_getElem h]
  rfl
theorem ixN_nat {n i : Nat} (h : i < n) : ixN n (i : Int) = some i := by
  unfold ixN
  rw [if_pos (by omega), if_pos (by omega)]
  simp
/-- one turn of the inner loop -/
theorem end_turn {ks : KS} {ns es : List Nat} (ok : TOk ks ns) {pl j e : Nat} (hp : pl < ns.length) (hj : j < arN ks ns[pl]) (h : rem j ((arL ks ns).drop (pl + 1)) = some ((arL ks ns).drop e)) (h1 : pl + 1 ≤ e) (h2 : e ≤ ns.length)
    (hl : es.length = ns.length) (he : ∀ i, pl < i → i < ns.length → EndAt (arL ks ns) i (es.getD i 0)) : e < ns.length ∧ rem (j + 1) ((arL ks ns).drop (pl + 1)) = some ((arL ks ns).drop (es.getD e 0)) ∧ pl + 1 ≤ es.getD e 0 ∧ es.getD e 0 ≤ ns.length := by
  have hlen : (arL ks ns).length = ns.length := by simp
  obtain ⟨e0, E0⟩ := end_ex ok.rem (i := pl) (by omega)
  have r := E0.rem
  rw [arL_at hp, rem_cons, Nat.zero_add, show arN ks ns[pl] = j + (arN ks ns[pl] - j) by omega, rem_add, h] at r
  obtain ⟨x, y, z⟩ := rem_pos (by omega) (show rem (arN ks ns[pl] - j) ((arL ks ns).drop e) = some _ from r)
  have hlt : e < ns.length := by
    have := congrArg List.length z
    rw [List.length_drop, List.length_cons] at this
    omega
  have E1 := he e (by omega) hlt
  refine ⟨hlt, ?_, by have := E1.lt; omega, by have := E1.le; omega⟩
  rw [rem_add, h]
  exact E1.rem
theorem ok_ends {f : Addr} {fd : FuncData} (F : Fun K "ends_of" "ends_of" sEnds f fd) (T : Blt mg) : FnOk P w K mg base CX0 2 f fd ["signs", "term"] spEnds := by
  refine F.ok scEn (fun vs H Q E h => ?_) (fun cdv A outer s H vs Q E hr h => ?_)
  · obtain ⟨a, t, ks, ns, rfl, _⟩ := h
    rfl
  · obtain ⟨a, t, ks, ns, rfl, ha, hk, ht, ok, q⟩ := h
    refine ⟨_, pss_cons (ps_set (i := 2) scEn.nd rfl (Or.inl rfl) (pe_op op_rep (pe_lst (pa_cons pe_int pa_nil)) (pe_callB call_len_seq (by rfl) T.len PySem.boot_len (pa_cons (pv 1) pa_nil))))
      (pss_cons (ps_for PassesOwn.never rfl (pi_range3 (by rfl) T.range (pa_cons (pe_op op_sub (pe_callB call_len_seq (by rfl) T.len PySem.boot_len (pa_cons (pv 1) pa_nil)) pe_int) (pa_cons (pe_un un_neg pe_int) (pa_cons (pe_un un_neg pe_int) pa_nil)))) (pg_name (i := 3) scEn.nd rfl (Or.inl rfl))
        (pss_cons (ps_set (i := 4) scEn.nd rfl (Or.inl rfl) (pe_op op_add (pv 3) pe_int))
        (pss_cons (ps_for PassesOwn.never rfl (pi_range1 (by rfl) T.range (pa_cons (pe_ix ix_tup (pe_ix ix_tup (pv 0) (pe_ix ix_tup (pv 1) (pv 3) (fun _ _ => rfl)) (fun _ _ => rfl)) pe_int (fun _ _ => rfl)) pa_nil)) (pg_name (i := 5) scEn.nd rfl (Or.inl rfl))
          (pss_one (ps_set (i := 4) scEn.nd rfl (Or.inl rfl) (pe_ix ix_list (pv 2) (pv 4) (fun _ _ => rfl)))))
        (pss_one (ps_asg (pv 4) (pg_sub (pv 2) (pv 3) set_list))))))
      (pss_one (ps_ret (pv 2)))), ?_⟩
    have h1 := ok.pos
    have h30 := ok.le
    have hlen : (arL ks ns).length = ns.length := by simp
    refine ⟨by show 1 ≤ sizeLine; decide, fun l0 hl0 => ?_⟩
    have S0 : Same H (upd H l0 (.lst [.int 0])) := same_new hl0
    refine ⟨_, rfl, t, _, rfl, .inr (S0.seqT (SqT.of ht)), l0, _, _, rfl, rfl, upd_same, ?_⟩
    rw [List.length_map]
    refine ⟨by omega, by omega, ?_, fun p hp => ?_⟩
    · show 1 * ns.length ≤ sizeLine
      have := small1000 (n := 1 * ns.length) (by omega)
      omega
    rw [show ((ns.length : Nat) : Int).toNat = ns.length by simp, flat0]
    have S1 : ∀ o, Same H (upd (upd H l0 (.lst [.int 0])) p o) := fun o => S0.trans (same_new hp)
    have hT : ∀ o, SqT K (upd (upd H l0 (.lst [.int 0])) p o) t (ns.map nV) := fun o => (S1 o).seqT (SqT.of ht)
    refine ⟨_, rfl, t, _, rfl, .inr (hT _), _, _, rfl, rfl, _, rfl, _, rfl, _, _, _, _, rfl, RgC.neg ?_ ?_ (by decide) (by decide), ?_⟩
    · rw [List.length_map]; omega
    · rw [List.length_map]; omega
    rw [List.length_map]
    have en : ((ns.length : Int) - 1 - -1).toNat = ns.length := by omega
    rw [show ((ns.length : Int) - 1 - (-1 : Int)).toNat = ns.length from en]
    refine for_rangeC (fun i σ H2 => ∃ (es : List Nat) (o3 o4 o5 : Option V), H2 = upd (upd H l0 (.lst [.int 0])) p (.lst (es.map nV)) ∧ es.length = ns.length ∧ (∀ j, ns.length ≤ j + i → j < ns.length → EndAt (arL ks ns) j (es.getD j 0)) ∧ σ = [some (.ref a), some (.ref t), some (.ref p), o3, o4, o5])
      ⟨_, _, _, _, rfl, by simp, fun j z1 z2 => by omega, rfl⟩ ?_ ?_
    · rintro i σ H2 hi ⟨es, o3, o4, o5, rfl, hes, he, rfl⟩
      have epl : ((ns.length : Int) - 1 + (i : Nat) * (-1 : Int)) = ((ns.length - 1 - i : Nat) : Int) := by omega
      rw [epl]
      generalize hpl : ns.length - 1 - i = pl
      have hp1 : pl < ns.length := by omega
      have hlt := ok.lt _ (List.getElem_mem hp1)
      obtain ⟨ps, qq, x, e1, e2, e3, e4, e5⟩ := (ha.same (S1 (.lst (es.map nV)))).at hlt
      refine ⟨_, rfl, _, _, rfl, rfl, ?_⟩
      refine ⟨_, rfl, _, rfl, _, rfl, t, _, _, _, rfl, rfl, hT _, TAt.at (H := H) (t := t) hp1, a, _, _, _, rfl, rfl, SqT.of e1, e3, qq, _, _, _, rfl, rfl, SqT.of e4, rfl, _, rfl, by omega, by have := arN_le hk ns[pl]; omega, ?_⟩
      rw [show ((arN ks ns[pl] : Nat) : Int).toNat = arN ks ns[pl] by simp]
      refine for_range (fun j σ H2 => ∃ (e : Nat) (o5 : Option V), H2 = upd (upd H l0 (.lst [.int 0])) p (.lst (es.map nV)) ∧ rem j ((arL ks ns).drop (pl + 1)) = some ((arL ks ns).drop e) ∧ pl + 1 ≤ e ∧ e ≤ ns.length ∧ σ = [some (.ref a), some (.ref t), some (.ref p), some (nV pl), some (nV e), o5])
        ⟨pl + 1, o5, rfl, rem_zero _, Nat.le_refl _, hp1, rfl⟩ ?_ ?_
      · rintro j σ H2 hj ⟨e, o5, rfl, hr1, hr2, hr3, rfl⟩
        obtain ⟨t1, t2, t3, t4⟩ := end_turn ok hp1 hj hr1 hr2 hr3 hes fun i' z1 z2 => he i' (by omega) z2
        refine ⟨_, rfl, _, rfl, p, _, _, _, rfl, rfl, SqL.of upd_same, atI_nat (getD_map (by omega)), _, _, rfl, t2, t3, t4, rfl⟩
      · rintro σ H2 ⟨e, o5, rfl, hr1, hr2, hr3, rfl⟩
        refine ⟨_, rfl, _, rfl, _, rfl, p, _, _, pl, rfl, rfl, upd_same, ?_, es.set pl e, _, _, _, ?_, ?_, ?_, rfl⟩
        · rw [List.length_map]; exact ixN_nat (by omega)
        · rw [upd_upd, ← List.map_set]
        · rw [List.length_set]; exact hes
        · intro j z1 z2
          by_cases ej : j = pl
          · subst ej
            have : (es.set j e).getD j 0 = e := by rw [List.getD_eq_getElem?_getD, List.getElem?_set_self (by omega)]; rfl
            rw [this]
            refine ⟨hr2, by omega, ?_⟩
            rw [arL_at hp1, rem_cons, Nat.zero_add]
            exact hr1
          · have : (es.set pl e).getD j 0 = es.getD j 0 := by rw [List.getD_eq_getElem?_getD, List.getElem?_set_ne (fun z => ej z.symm), ← List.getD_eq_getElem?_getD]
            rw [this]
            exact he j (by omega) z2
    · rintro σ H2 ⟨es, o3, o4, o5, rfl, hes, he, rfl⟩
      exact ⟨_, rfl, q p es _ (S1 _) upd_same ⟨hes, fun i hi => he i (by omega) hi⟩⟩
end
end K3


set_option Elab.async false
set_option linter.all false
set_option maxRecDepth 100000
set_option maxHeartbeats 800000
namespace K3
open PySem L2 LN
abbrev sNam : Stmt := top 30
def n8 : List Str := ["a", "f", "g", "aa", "ab", "ba", "ffffff", "fffffg"]
theorem n8_ok : ∀ x ∈ n8, NmOk x := by unfold NmOk SmN; decide +kernel
theorem abc_at : ∀ j : Nat, j < 26 → atI ("abcdefghijklmnopqrstuvwxyz" : Str).cps.toList (j : Int) = some ((97 + j : Nat)) := by decide +kernel
def spNam : Sp := fun vs H Q _ => ∃ (p : Addr), vs = [.ref p] ∧ PotAt H p ∧ ∀ (x : Str) (H' : Hp), Sam p H H' → PotAt H' p → NmOk x → Q (.str x) H'
section
variable {P : Program} {w : World} {K : PySem.W.Frag} {mg : Str → Option Value} {base : Heap}
abbrev NN : List Str := ["_law_pot_here", "_law_letters", "_law_turn"]
theorem scN : FnScope NN ["_law_pot_here"] (defScope sNam) := ⟨rfl, rfl, rfl, by decide +kernel, rfl, by decide +kernel, by decide +kernel⟩
theorem ok_nam {f fT : Addr} {fd fdT : FuncData} (F : Fun K "_law_name" "_law_name" sNam f fd) (B : Blt mg) (T : Known P w K mg base CX0 2 "_law_take" fT fdT ["_law_pot_here", "_law_far"] spTake) : FnOk P w K mg base CX0 3 f fd ["_law_pot_here"] spNam := by
  refine F.ok scN (fun vs H Q E h => ?_) (fun cdv A outer s H vs Q E hr h => ?_)
  · obtain ⟨p, rfl, _⟩ := h
    rfl
  · obtain ⟨p, rfl, ⟨n0, hp⟩, q⟩ := h
    refine ⟨_, pss_cons (ps_set (i := 1) scN.nd rfl (Or.inr rfl) pe_str)
      (pss_cons (ps_if (pt_cmpR op_eq (pe_call T.G hr (by rfl) T.m T.k T.b .nil pass0 (pa_cons (pv 0) (pa_cons pe_int pa_nil))) pe_int (nomark _))
        (pss_one (ps_ret (pe_ix ix_list (pe_lst (pa_strs (xs := n8) (strs_of (by kernel_rfl)))) (pe_call T.G hr (by rfl) T.m T.k T.b .nil pass0 (pa_cons (pv 0) (pa_cons pe_int pa_nil))) (fun _ _ => rfl)))) pss_nil)
      (pss_one (ps_ret (pe_join pe_str (pe_lc (own := [("_law_turn", 2)]) (g := gName 2) (by rfl) scN.nd (pi_range1 (by rfl) B.range (pa_cons (pe_op op_add pe_int (pe_call T.G hr (by rfl) T.m T.k T.b .nil pass0 (pa_cons (pv 0) (pa_cons pe_int pa_nil)))) pa_nil))
        (blkOk_by (own := [("_law_turn", 2)]) (N := NN) (sc := defScope sNam) (by decide +kernel)) (fun _ _ _ _ _ => pg_name (i := 2) scN.nd rfl (Or.inl rfl)) (fun _ _ _ _ _ => pts_nil)
        (fun _ _ _ _ _ => pe_ix ix_str (pv 1) (pe_call T.G hr (by rfl) T.m T.k T.b .nil pass0 (pa_cons (pv 0) (pa_cons pe_int pa_nil))) (fun _ _ => rfl))))))), ?_⟩
    refine ⟨_, rfl, p, n0, 3, rfl, hp, by decide, by decide, rfl, _, rfl, ?_⟩
    have hp1 : (upd H p (.lst [.int (n0 / 3)])) p = some (.lst [.int (n0 / 3)]) := upd_same
    have S1 : Sam p H (upd H p (.lst [.int (n0 / 3)])) := Sam.upd
    generalize upd H p (.lst [.int (n0 / 3)]) = H1 at hp1 S1 ⊢
    generalize n0 / 3 = n1 at hp1
    refine ite2 (fun _ => ?_) (fun _ => ?_)
    · refine ⟨by show 8 ≤ sizeLine; decide, fun l hl => ?_⟩
      have hpl := ne_of_none hp1 hl
      obtain ⟨j, hj, ej⟩ := mod_nat (n := n1) (m := 8) (by decide)
      refine ⟨_, rfl, p, n1, 8, rfl, by rw [upd_ne hpl]; exact hp1, by decide, by decide, l, n8.map V.str, _, .str (n8.getD j ""), rfl, rfl, SqL.of (by rw [upd_ne (Ne.symm hpl), upd_same]), ?_, ?_⟩
      · rw [show (n1 % 8 : Int) = (j : Int) from ej]
        refine atI_nat ?_
        rw [List.getElem?_map, List.getD_eq_getElem?_getD, List.getElem?_eq_getElem (show j < n8.length from hj)]
        rfl
      · refine q _ _ ?_ ⟨_, upd_same⟩ (n8_ok _ ?_)
        · exact (S1.trans (Sam.of (same_new hl))).trans Sam.upd
        · rw [List.getD_eq_getElem?_getD, List.getElem?_eq_getElem (show j < n8.length from hj)]
          exact List.getElem_mem _
    · obtain ⟨m, hm, em⟩ := mod_nat (n := n1) (m := 6) (by decide)
      refine ⟨⟨_, rfl⟩, _, rfl, p, n1, 6, rfl, hp1, by decide, by decide, _, _, rfl, rfl, _, rfl, ?_, ?_, fun D hD => ?_⟩
      · rw [show (n1 % 6 : Int) = (m : Int) from em]; omega
      · rw [show (n1 % 6 : Int) = (m : Int) from em]; omega
      rw [show ((1 : Int) + n1 % 6).toNat = 1 + m by rw [show (n1 % 6 : Int) = (m : Int) from em]; omega]
      have hp2 : PotAt (upd H1 p (.lst [.int (n1 / 6)])) p := ⟨_, upd_same⟩
      have S2 : Sam p H (upd H1 p (.lst [.int (n1 / 6)])) := S1.trans Sam.upd
      generalize upd H1 p (.lst [.int (n1 / 6)]) = H2 at hp2 S2 hD ⊢
      have hpD : p ≠ D := by
        obtain ⟨k, z⟩ := hp2
        exact ne_of_none z hD
      have hD0 : H D = none := S2.free (Ne.symm hpD) hD
      refine lc_range (fun i H3 => Sam p H H3 ∧ PotAt H3 p ∧ ∃ cs : List Nat, cs.length = i ∧ (∀ c ∈ cs, SmN c) ∧ H3 D = some (.lst ((cs.map sgn).map V.str))) ⟨S2.over hD0, hp2.over hD, [], rfl, (fun c z => nomatch z), upd_same⟩ ?_ ?_
      · rintro i H3 hi ⟨S3, ⟨k, hp3⟩, cs, hl, hc, hcs⟩
        obtain ⟨j, hj, ej⟩ := mod_nat (n := k) (m := 26) (by decide)
        refine ⟨rfl, ?_⟩
        unfold tYes
        refine iteT ?_
        refine ⟨_, rfl, _, rfl, p, k, 26, rfl, hp3, by decide, by decide, _, _, 97 + j, rfl, rfl, by decide +kernel, ?_, ?_⟩
        · rw [show (k % 26 : Int) = (j : Int) from ej]; exact abc_at j hj
        · refine ⟨_, by rw [upd_ne (Ne.symm hpD)]; exact hcs, by rw [List.length_map, List.length_map, hl]; exact small1000 (by omega), ?_, ?_, cs ++ [97 + j], ?_, ?_, ?_⟩
          · exact (S3.trans Sam.upd).over hD0
          · exact PotAt.upd ⟨_, upd_same⟩ hpD
          · rw [List.length_append, hl]; rfl
          · intro c hcc
            rcases List.mem_append.mp hcc with z | z
            · exact hc c z
            · rw [List.mem_singleton.mp z]; exact ⟨by omega, by omega⟩
          · rw [upd_same, List.map_append, List.map_append]
            rfl
      · rintro H3 ⟨S3, hp3, cs, hl, hc, hcs⟩
        refine ⟨_, D, cs.map sgn, rfl, rfl, .inl (SqL.of hcs), ?_, q _ _ S3 hp3 (nm_join (by omega) (by omega) hc)⟩
        have e : ((cs.map sgn).map (·.length)).sum = cs.length := by
          clear hcs hc hl
          induction cs with
          | nil => rfl
          | cons c cs ih => rw [List.map_cons, List.map_cons, List.sum_cons, ih, List.length_cons]; show 1 + _ = _; omega
        rw [e]
        show cs.length + (cs.map sgn).length * 0 ≤ 16777216
        omega
end
end K3


set_option Elab.async false
set_option linter.all false
set_option maxRecDepth 100000
set_option maxHeartbeats 800000
namespace K3
open PySem L2 LN
abbrev sTerm : Stmt := top 32
abbrev sEnd : Stmt := top 33
def spEnd : Sp := fun vs H Q _ => ∃ (a t : Addr) (ks : KS) (ns : List Nat) (i : Nat), vs = [.ref a, .ref t, nV i] ∧ KAt H a ks ∧ KOk ks ∧ TAt H t ns ∧ TOk ks ns ∧ i < ns.length ∧ ∀ e : Nat, EndAt (arL ks ns) i e → Q (nV e) H
def spTerm : Sp := fun vs H Q _ => ∃ (p a : Addr) (ks : KS) (tp : Nat), vs = [.ref p, .ref a, nV tp] ∧ PotAt H p ∧ KAt H a ks ∧ KOk ks ∧ 1 ≤ tp ∧ tp ≤ 30 ∧ ∀ (t : Addr) (ns : List Nat) (H' : Hp), Sam p H H' → PotAt H' p → TAt H' t ns → TOk ks ns → Q (.ref t) H'
/-- the int in a slot, taken from 100 -/
def mz (i : Nat) (σ : St) : Nat := match σ[i]? with
  | some (some (.int z)) => (100 - z).toNat
  | _ => 0
def ml (r : Addr) (H : Hp) : Nat := match H r with
  | some (.lst xs) => 100 - xs.length
  | _ => 0
section
variable {P : Program} {w : World} {K : PySem.W.Frag} {mg : Str → Option Value} {base : Heap}
theorem scE : FnScope ["_law_kinds_here", "_law_row", "_law_start", "_law_wanted", "_law_at"] ["_law_kinds_here", "_law_row", "_law_start"] (defScope sEnd) := ⟨rfl, rfl, rfl, by decide +kernel, rfl, by decide +kernel, by decide +kernel⟩
theorem mono_gt {i : Nat} {σ : St} {H : Hp} {c : V} {r : Int → Int → V} {Q Q' : Bool → Hp → Prop} (h : ∀ b H1, Q b H1 → Q' b H1) (z : tTest (tOp (rI0 r) (tVar i) (tC c)) σ H Q) : tTest (tOp (rI0 r) (tVar i) (tC c)) σ H Q' := by
  obtain ⟨v, hv, i, j, e1, e2, k, ek, q⟩ := z
  exact ⟨v, hv, i, j, e1, e2, k, ek, h _ _ q⟩
theorem ok_end {f : Addr} {fd : FuncData} (F : Fun K "_law_end" "_law_end" sEnd f fd) : FnOk P w K mg base CX0 2 f fd ["_law_kinds_here", "_law_row", "_law_start"] spEnd := by
  refine F.ok scE (fun vs H Q E h => ?_) (fun cdv A outer s H vs Q E hr h => ?_)
  · obtain ⟨_, _, _, _, _, rfl, _⟩ := h
    rfl
  · obtain ⟨a, t, ks, ns, i, rfl, ha, hk, ht, ok, hi, q⟩ := h
    refine ⟨_, pss_cons (ps_par (i := 3) (j := 4) (by rfl) scE.nd rfl rfl (by decide) rfl rfl (pa_cons pe_int (pa_cons (pv 2) pa_nil)) (by rfl))
      (pss_cons (ps_while PassesOwn.never (pt_cmpR op_gt (pv 3) pe_int (nomark _))
        (pss_cons (ps_set (i := 3) scE.nd rfl (Or.inl rfl) (pe_op op_add (pe_op op_sub (pv 3) pe_int) (pe_ix ix_tup (pe_ix ix_tup (pv 0) (pe_ix ix_tup (pv 1) (pv 4) (fun _ _ => rfl)) (fun _ _ => rfl)) pe_int (fun _ _ => rfl))))
        (pss_one (ps_set (i := 4) scE.nd rfl (Or.inl rfl) (pe_op op_add (pv 4) pe_int)))))
      (pss_one (ps_ret (pv 4)))), ?_⟩
    obtain ⟨e, E1⟩ := end_ex ok.rem (i := i) (by simpa using hi)
    have hlen : (arL ks ns).length = ns.length := by simp
    refine ⟨_, rfl, _, _, rfl, ?_⟩
    refine while_by (fun σ H2 => H2 = H ∧ ∃ wd at' : Nat, rem wd ((arL ks ns).drop at') = some ((arL ks ns).drop e) ∧ at' ≤ ns.length ∧ σ = [some (.ref a), some (.ref t), some (nV i), some (nV wd), some (nV at')]) (fun σ _ => mz 4 σ) ⟨rfl, 1, i, E1.rem, Nat.le_of_lt hi, rfl⟩ ?_ (fun σ H Q Q' h z => mono_gt h z)
    rintro σ H2 ⟨rfl, wd, at', hw, hle, rfl⟩
    refine ⟨_, rfl, _, _, rfl, rfl, _, rfl, ?_⟩
    refine ite2 (fun hlt => ?_) (fun hlt => ?_)
    · have hlt : (0 : Int) < ((wd : Nat) : Int) := of_decide_eq_true hlt
      obtain ⟨x, y, z⟩ := rem_pos (by omega) hw
      have hat : at' < ns.length := by
        have := congrArg List.length z
        rw [List.length_drop, List.length_cons] at this
        omega
      rw [arL_at hat] at hw
      cases wd with
      | zero => omega
      | succ wd =>
        rw [rem_cons] at hw
        obtain ⟨ps, qq, x, e1, e2, e3, e4, e5⟩ := ha.at (ok.lt _ (List.getElem_mem hat))
        refine ⟨_, rfl, _, _, rfl, rfl, _, rfl, _, rfl, _, rfl, t, _, _, _, rfl, rfl, SqT.of ht, TAt.at (H := H2) (t := t) hat, a, _, _, _, rfl, rfl, SqT.of e1, e3, qq, _, _, _, rfl, rfl, SqT.of e4, rfl, _, _, rfl, rfl, ?_⟩
        refine ⟨_, rfl, _, _, rfl, rfl, ⟨rfl, wd + arN ks ns[at'], at' + 1, hw, hat, ?_⟩, ?_⟩
        · show [some (V.ref a), some (V.ref t), some (nV i), some (V.int (((wd + 1 : Nat) : Int) - 1 + ((arN ks ns[at'] : Nat) : Int))), some (V.int (((at' : Nat) : Int) + 1))] = _
          rw [show ((wd + 1 : Nat) : Int) - 1 + ((arN ks ns[at'] : Nat) : Int) = ((wd + arN ks ns[at'] : Nat) : Int) by omega]
          rfl
        · show (100 - (((at' : Nat) : Int) + 1)).toNat < (100 - ((at' : Nat) : Int)).toNat
          have := ok.le
          omega
    · have hz : wd = 0 := by
        have : ¬ (0 : Int) < ((wd : Nat) : Int) := fun z => hlt (decide_eq_true z)
        omega
      subst hz
      rw [rem_zero] at hw
      have ee := drop_inj (by omega) E1.le (Option.some.inj hw)
      subst ee
      exact ⟨_, rfl, q _ E1⟩
abbrev NT : List Str := ["_law_pot_here", "_law_kinds_here", "_law_top", "_law_row", "_law_wanted", "_law_room", "_law_some", "_law_sign"]
theorem scT_ : FnScope NT ["_law_pot_here", "_law_kinds_here", "_law_top"] (defScope sTerm) := ⟨rfl, rfl, rfl, by decide +kernel, rfl, by decide +kernel, by decide +kernel⟩
theorem ok_term {f fT : Addr} {fd fdT : FuncData} (F : Fun K "_law_term" "_law_term" sTerm f fd) (B : Blt mg) (T : Known P w K mg base CX0 2 "_law_take" fT fdT ["_law_pot_here", "_law_far"] spTake) : FnOk P w K mg base CX0 3 f fd ["_law_pot_here", "_law_kinds_here", "_law_top"] spTerm := by
  refine F.ok scT_ (fun vs H Q E h => ?_) (fun cdv A outer s H vs Q E hr h => ?_)
  · obtain ⟨_, _, _, _, rfl, _⟩ := h
    rfl
  · obtain ⟨p, a, ks, tp, rfl, hp, ha, hk, tp1, tp30, q⟩ := h
    refine ⟨_, pss_cons (ps_par (i := 3) (j := 4) (by rfl) scT_.nd rfl rfl (by decide) rfl rfl (pa_cons (pe_lst pa_nil) (pa_cons pe_int pa_nil)) (by rfl))
      (pss_cons (ps_while PassesOwn.never (pt_cmpR op_gt (pv 4) pe_int (nomark _))
        (pss_cons (ps_set (i := 5) scT_.nd rfl (Or.inr rfl) (pe_op op_sub (pe_op op_sub (pv 2) (pe_callB call_len_seq (by rfl) B.len PySem.boot_len (pa_cons (pv 3) pa_nil))) (pv 4)))
        (pss_cons (ps_setLc (i := 6) (own := [("_law_sign", 7)]) (g := gName 7) (tt := tTest (tOp (rI0 fun i j => .bl (decide (i ≤ j))) (tOp (rIxT K) (tOp (rIxT K) (tVar 1) (tVar 7)) (tC (.int 1))) (tVar 5))) (by rfl) scT_.nd rfl rfl (sw_true rfl rfl rfl (by decide +kernel)) (pi_range1 (by rfl) B.range (pa_cons (pe_callB call_len_seq (by rfl) B.len PySem.boot_len (pa_cons (pv 1) pa_nil)) pa_nil))
          (blkOk_by (own := [("_law_sign", 7)]) (N := NT) (sc := defScope sTerm) (by decide +kernel)) (fun _ _ _ _ _ => pg_name (i := 7) scT_.nd rfl (Or.inl rfl))
          (fun _ _ _ _ _ => pts_one (pt_cmpR op_le (pe_ix ix_tup (pe_ix ix_tup (pv 1) (pv 7) (fun _ _ => rfl)) pe_int (fun _ _ => rfl)) (pv 5) (nomark _))) (fun _ _ _ _ _ => pv 7))
        (pss_cons (ps_set (i := 7) scT_.nd rfl (Or.inl rfl) (pe_ix ix_list (pv 6) (pe_call T.G hr (by rfl) T.m T.k T.b .nil pass0 (pa_cons (pv 0) (pa_cons (pe_callB call_len_seq (by rfl) B.len PySem.boot_len (pa_cons (pv 6) pa_nil)) pa_nil))) (fun _ _ => rfl)))
        (pss_cons (ps_expr (pe_bm PySem.F.plainAttrs_list PySem.F.slot_list_append PySem.F.type_list_append mt_append (pv 3) (pa_cons (pv 7) pa_nil)))
        (pss_one (ps_set (i := 4) scT_.nd rfl (Or.inl rfl) (pe_op op_add (pe_op op_sub (pv 4) pe_int) (pe_ix ix_tup (pe_ix ix_tup (pv 1) (pv 7) (fun _ _ => rfl)) pe_int (fun _ _ => rfl))))))))))
      (pss_one (ps_ret (pe_callTy call_tuple_of (by rfl) B.tuple (by decide +kernel) (pa_cons (pv 3) pa_nil))))), ?_⟩
    obtain ⟨n0, hp0⟩ := id hp
    refine ⟨Nat.zero_le _, fun r hr0 => ⟨_, _, rfl, ?_⟩⟩
    have hrp : p ≠ r := ne_of_none hp0 hr0
    refine while_by (fun σ H2 => ∃ (wd : Nat) (row : List Nat) (o5 o6 o7 : Option V), Sam p H H2 ∧ PotAt H2 p ∧ H2 r = some (.lst (row.map nV)) ∧ row.length + wd ≤ tp ∧ (∀ n ∈ row, n < ks.length) ∧ (∀ rest, rem 1 (arL ks row ++ rest) = rem wd rest) ∧ σ = [some (.ref p), some (.ref a), some (nV tp), some (.ref r), some (nV wd), o5, o6, o7])
      (fun _ H2 => ml r H2) ⟨1, [], _, _, _, Sam.of (same_new hr0), hp.over hr0, upd_same, by simpa using tp1, (fun n z => nomatch z), fun rest => rfl, rfl⟩ ?_ (fun σ H Q Q' h z => mono_gt h z)
    rintro σ H2 ⟨wd, row, o5, o6, o7, S2, ⟨n2, hp2⟩, hrow, hle, hlt, hrem, rfl⟩
    refine ⟨_, rfl, _, _, rfl, rfl, _, rfl, ?_⟩
    refine ite2 (fun hw => ?_) (fun hw => ?_)
    · have hw : (0 : Int) < ((wd : Nat) : Int) := of_decide_eq_true hw
      have ha2 := ha.sam hp0 S2
      obtain ⟨ps, hka, hps⟩ := id ha2
      have hl : ps.length = ks.length := Paired.length hps
      have h8 := hk.le8
      refine ⟨_, rfl, _, rfl, r, _, rfl, .inl (SqL.of hrow), _, _, rfl, rfl, _, rfl, _, _, rfl, rfl, ?_⟩
      dsimp only
      rw [List.length_map, show ((tp : Nat) : Int) - ((row.length : Nat) : Int) - ((wd : Nat) : Int) = ((tp - row.length - wd : Nat) : Int) by omega]
      generalize hrm : tp - row.length - wd = rm
      refine ⟨_, rfl, a, _, rfl, .inr (SqT.of hka), _, rfl, ?_, ?_, fun D hD => ?_⟩
      · rw [List.length_map]; omega
      · rw [List.length_map]; omega
      rw [List.length_map, show ((ps.length : Nat) : Int).toNat = ks.length by rw [hl]; simp]
      have hDr : r ≠ D := ne_of_none hrow hD
      have hDp : p ≠ D := ne_of_none hp2 hD
      have hD0 : H D = none := S2.free (Ne.symm hDp) hD
      refine lc_range (fun i H3 => ∃ ss : List Nat, H3 = upd H2 D (.lst (ss.map nV)) ∧ ss.length ≤ i ∧ (∀ x ∈ ss, x < ks.length ∧ arN ks x ≤ rm) ∧ ∀ x, x < i → arN ks x ≤ rm → x ∈ ss) ⟨[], rfl, Nat.le_refl _, (fun x z => nomatch z), fun x z => by omega⟩ ?_ ?_
      · rintro i H3 hi ⟨ss, rfl, hsl, hs1, hs2⟩
        rw [show (0 : Int) + (i : Nat) = ((i : Nat) : Int) by omega]
        obtain ⟨ps', qq, x, e1, e2, e3, e4, e5⟩ := (ha2.same (same_new (o := .lst (ss.map nV)) hD)).at hi
        refine ⟨rfl, ?_⟩
        refine ⟨_, rfl, _, rfl, a, _, _, _, rfl, rfl, SqT.of e1, e3, qq, _, _, _, rfl, rfl, SqT.of e4, rfl, _, rfl, _, _, rfl, rfl, _, rfl, ?_⟩
        refine ite2 (fun hc => ?_) (fun hc => ?_)
        · have hc : ((arN ks i : Nat) : Int) ≤ ((rm : Nat) : Int) := of_decide_eq_true hc
          refine ⟨_, rfl, _, upd_same, by rw [List.length_map]; exact small1000 (by omega), ss ++ [i], ?_, ?_, ?_, ?_⟩
          · rw [upd_upd, List.map_append]; rfl
          · rw [List.length_append, List.length_singleton]; omega
          · intro x hx
            rcases List.mem_append.mp hx with z | z
            · exact hs1 x z
            · rw [List.mem_singleton.mp z]; exact ⟨hi, by omega⟩
          · intro x hx hr'
            by_cases e : x = i
            · subst e; exact List.mem_append_right _ (List.mem_singleton.mpr rfl)
            · exact List.mem_append_left _ (hs2 x (by omega) hr')
        · have hc : ¬ ((arN ks i : Nat) : Int) ≤ ((rm : Nat) : Int) := fun z => hc (decide_eq_true z)
          refine ⟨ss, rfl, by omega, hs1, fun x hx hr' => ?_⟩
          by_cases e : x = i
          · subst e; omega
          · exact hs2 x (by omega) hr'
      · rintro H3 ⟨ss, rfl, hsl, hs1, hs2⟩
        have hpos : 0 < ss.length := by
          obtain ⟨k, hkm, hk0⟩ := hk.z
          obtain ⟨j, hj, ej⟩ := List.mem_iff_getElem.mp hkm
          have ea : arN ks j = 0 := by
            unfold arN
            rw [List.getD_eq_getElem?_getD, List.getElem?_eq_getElem hj]
            show ks[j].2 = 0
            rw [ej, hk0]
          exact List.length_pos_of_mem (hs2 j hj (by omega))
        have hp3 : (upd H2 D (.lst (ss.map nV))) p = some (.lst [.int n2]) := by rw [upd_ne hDp]; exact hp2
        obtain ⟨j, hj, ej⟩ := mod_nat (n := n2) hpos
        refine ⟨_, rfl, _, rfl, _, rfl, D, _, rfl, .inl (SqL.of upd_same), p, n2, _, rfl, hp3, ?_, ?_, ?_⟩
        · rw [List.length_map]; omega
        · rw [List.length_map]
          have e : ((ss.length : Nat) : Int).natAbs = ss.length := by omega
          rw [e]
          exact Nat.lt_of_le_of_lt (Nat.log2_le_self _) (by omega)
        have hsj := hs1 _ (List.getElem_mem hj)
        generalize hsx : ss[j] = sx at hsj
        refine ⟨D, ss.map nV, _, nV sx, rfl, rfl, SqL.of (by rw [upd_ne (Ne.symm hDp), upd_same]), ?_, ?_⟩
        · rw [List.length_map, ej]
          refine atI_nat ?_
          rw [List.getElem?_map, List.getElem?_eq_getElem hj, hsx]
          rfl
        rw [List.length_map]
        have hr3 : (upd (upd H2 D (.lst (ss.map nV))) p (.lst [.int (n2 / (ss.length : Int))])) r = some (.lst (row.map nV)) := by
          rw [upd_ne (Ne.symm hrp), upd_ne hDr]; exact hrow
        have hp4 : PotAt (upd (upd H2 D (.lst (ss.map nV))) p (.lst [.int (n2 / (ss.length : Int))])) p := ⟨_, upd_same⟩
        have S4 : Sam p H (upd (upd H2 D (.lst (ss.map nV))) p (.lst [.int (n2 / (ss.length : Int))])) := (S2.over hD0).trans Sam.upd
        generalize upd (upd H2 D (.lst (ss.map nV))) p (.lst [.int (n2 / (ss.length : Int))]) = H4 at hr3 hp4 S4 ⊢
        refine ⟨_, rfl, .inl ⟨rfl, _, SqL.of hr3⟩, _, rfl, r, _, _, rfl, rfl, hr3, by rw [List.length_map]; exact small1000 (by omega), ?_⟩
        have S5 : Sam p H (upd H4 r (.lst (row.map nV ++ [nV sx]))) := S4.over hr0
        obtain ⟨ps', qq, x, e1, e2, e3, e4, e5⟩ := (ha.sam hp0 S5).at hsj.1
        refine ⟨_, rfl, _, _, rfl, rfl, _, rfl, _, rfl, a, _, _, _, rfl, rfl, SqT.of e1, e3, qq, _, _, _, rfl, rfl, SqT.of e4, rfl, _, _, rfl, rfl, ⟨wd - 1 + arN ks sx, row ++ [sx], some (nV rm), some (.ref D), some (nV sx), S5, hp4.upd hrp, ?_, ?_, ?_, ?_, ?_⟩, ?_⟩
        · rw [upd_same, List.map_append]; rfl
        · rw [List.length_append, List.length_singleton]
          have := hsj.2
          omega
        · intro n hn
          rcases List.mem_append.mp hn with z | z
          · exact hlt n z
          · rw [List.mem_singleton.mp z]; exact hsj.1
        · intro rest
          show rem 1 ((row ++ [sx]).map (arN ks) ++ rest) = _
          rw [List.map_append, List.append_assoc, hrem]
          show rem wd (arN ks sx :: rest) = _
          rw [show wd = (wd - 1) + 1 by omega, rem_cons]
          rfl
        · show [some (V.ref p), some (V.ref a), some (nV tp), some (V.ref r), some (V.int (((wd : Nat) : Int) - 1 + ((arN ks sx : Nat) : Int))), some (nV rm), some (.ref D), some (nV sx)] = _
          rw [show ((wd : Nat) : Int) - 1 + ((arN ks sx : Nat) : Int) = ((wd - 1 + arN ks sx : Nat) : Int) by omega]
        · show ml r _ < ml r _
          unfold ml
          rw [upd_same, hrow]
          show 100 - (row.map nV ++ [nV sx]).length < 100 - (row.map nV).length
          rw [List.length_append, List.length_map, List.length_singleton]
          omega
    · have hz : wd = 0 := by
        have : ¬ (0 : Int) < ((wd : Nat) : Int) := fun z => hw (decide_eq_true z)
        omega
      subst hz
      refine ⟨_, rfl, r, _, rfl, .inl ⟨SqL.of hrow, fun l hl => ?_⟩⟩
      have hlp : p ≠ l := ne_of_none hp2 hl
      refine q l row _ (S2.over (S2.free (Ne.symm hlp) hl)) (PotAt.over ⟨_, hp2⟩ hl) upd_same ⟨by omega, hlt, ?_⟩
      have := hrem []
      rw [List.append_nil] at this
      exact this
end
end K3


set_option Elab.async false
set_option linter.all false
set_option maxRecDepth 100000
set_option maxHeartbeats 800000
namespace K3
open PySem L2 LN
abbrev sKinds : Stmt := top 31
def spKinds : Sp := fun vs H Q _ => ∃ p : Addr, vs = [.ref p] ∧ PotAt H p ∧ ∀ (a : Addr) (ks : KS) (H' : Hp), Sam p H H' → PotAt H' p → KAt H' a ks → KOk ks → Q (.ref a) H'
abbrev NK : List Str := ["_law_pot_here", "_law_found", "_law_turn", "_law_name_here", "_law_at", "_law_one", "_law_below_here"]
structure KSt (p l : Addr) (H H2 : Hp) (i : Nat) (ps : List Addr) (ks : KS) : Prop where
  S : Sam p H H2
  pot : PotAt H2 p
  at_ : H2 l = some (.lst (ps.map V.ref))
  pr : Paired (PairAt H2) ps ks
  le : ks.length ≤ i
  pos : 0 < i → 0 < ks.length
  nm : ∀ k ∈ ks, NmOk k.1
  ar : ∀ k ∈ ks, k.2 ≤ 3
  nd : (ks.map (·.1)).Nodup
def d3 : List Nat := [3, 5, 8]
def d6 : List Nat := [0, 1, 2, 3, 2, 0]
theorem d3_ok : ∀ j, j < 3 → 3 ≤ d3.getD j 0 ∧ d3.getD j 0 ≤ 8 := by decide
theorem d6_ok : ∀ j, j < 6 → d6.getD j 0 ≤ 3 := by decide
theorem getD_at {es : List Nat} {i : Nat} (h : i < es.length) : atI (es.map nV) (i : Int) = some (nV (es.getD i 0)) := atI_nat (getD_map h)
section
variable {P : Program} {w : World} {K : PySem.W.Frag} {mg : Str → Option Value} {base : Heap}
theorem scK : FnScope NK ["_law_pot_here"] (defScope sKinds) := ⟨rfl, rfl, rfl, by decide +kernel, rfl, by decide +kernel, by decide +kernel⟩
theorem ok_kinds {f fT fN : Addr} {fd fdT fdN : FuncData} (F : Fun K "_law_kinds" "_law_kinds" sKinds f fd) (B : Blt mg) (T : Known P w K mg base CX0 2 "_law_take" fT fdT ["_law_pot_here", "_law_far"] spTake) (N : Known P w K mg base CX0 3 "_law_name" fN fdN ["_law_pot_here"] spNam) : FnOk P w K mg base CX0 4 f fd ["_law_pot_here"] spKinds := by
  refine F.ok scK (fun vs H Q E h => ?_) (fun cdv A outer s H vs Q E hr h => ?_)
  · obtain ⟨_, rfl, _⟩ := h
    rfl
  · obtain ⟨p, rfl, hp, q⟩ := h
    have hr2 := hr.mono (show 2 ≤ 2 + 1 by decide)
    refine ⟨_, pss_cons (ps_set (i := 1) scK.nd rfl (Or.inl rfl) (pe_lst pa_nil))
      (pss_cons (ps_for PassesOwn.never rfl (pi_range1 (by rfl) B.range (pa_cons (pe_op op_add pe_int (pe_call T.G hr2 (by rfl) T.m T.k T.b .nil pass0 (pa_cons (pv 0) (pa_cons (pe_ix ix_list (pe_lst (pa_cons pe_int (pa_cons pe_int (pa_cons pe_int pa_nil)))) (pe_call T.G hr2 (by rfl) T.m T.k T.b .nil pass0 (pa_cons (pv 0) (pa_cons pe_int pa_nil))) (fun _ _ => rfl)) pa_nil)))) pa_nil)) (pg_name (i := 2) scK.nd rfl (Or.inl rfl))
        (pss_cons (ps_set (i := 3) scK.nd rfl (Or.inl rfl) (pe_call N.G hr (by rfl) N.m N.k N.b .nil pass0 (pa_cons (pv 0) pa_nil)))
        (pss_one (ps_if (pt_cmpR op_notIn_seq (pv 3) (pe_lc (own := [("_law_one", 5), ("_law_below_here", 6)]) (g := gTup K 2 (gCons (gName 5) (gCons (gName 6) gNil))) (by rfl) scK.nd (pi_list (pv 1)) (blkOk_by (own := [("_law_one", 5), ("_law_below_here", 6)]) (N := NK) (sc := defScope sKinds) (by decide +kernel))
            (fun _ _ _ _ _ => pg_tup (by rfl) (pgs_cons (pg_name (i := 5) scK.nd rfl (Or.inl rfl)) (pgs_cons (pg_name (i := 6) scK.nd rfl (Or.inl rfl)) pgs_nil))) (fun _ _ _ _ _ => pts_nil) (fun _ _ _ _ _ => pv 5)) (by rfl))
          (pss_one (ps_expr (pe_bm PySem.F.plainAttrs_list PySem.F.slot_list_append PySem.F.type_list_append mt_append (pv 1) (pa_cons (pe_tup (pa_cons (pv 3) (pa_cons (pe_ix ix_list (pe_lst (pa_cons pe_int (pa_cons pe_int (pa_cons pe_int (pa_cons pe_int (pa_cons pe_int (pa_cons pe_int pa_nil))))))) (pe_call T.G hr2 (by rfl) T.m T.k T.b .nil pass0 (pa_cons (pv 0) (pa_cons pe_int pa_nil))) (fun _ _ => rfl)) pa_nil))) pa_nil))))
          pss_nil))))
      (pss_cons (ps_if (pt_cmpR op_notIn_seq pe_int (pe_lc (own := [("_law_name_here", 3), ("_law_below_here", 6)]) (g := gTup K 2 (gCons (gName 3) (gCons (gName 6) gNil))) (by rfl) scK.nd (pi_list (pv 1)) (blkOk_by (own := [("_law_name_here", 3), ("_law_below_here", 6)]) (N := NK) (sc := defScope sKinds) (by decide +kernel))
            (fun _ _ _ _ _ => pg_tup (by rfl) (pgs_cons (pg_name (i := 3) scK.nd rfl (Or.inl rfl)) (pgs_cons (pg_name (i := 6) scK.nd rfl (Or.inl rfl)) pgs_nil))) (fun _ _ _ _ _ => pts_nil) (fun _ _ _ _ _ => pv 6)) (by rfl))
        (pss_cons (ps_set (i := 4) scK.nd rfl (Or.inl rfl) (pe_call T.G hr2 (by rfl) T.m T.k T.b .nil pass0 (pa_cons (pv 0) (pa_cons (pe_callB call_len_seq (by rfl) B.len PySem.boot_len (pa_cons (pv 1) pa_nil)) pa_nil))))
        (pss_one (ps_asg (pe_tup (pa_cons (pe_ix ix_tup (pe_ix ix_list (pv 1) (pv 4) (fun _ _ => rfl)) pe_int (fun _ _ => rfl)) (pa_cons pe_int pa_nil))) (pg_sub (pv 1) (pv 4) set_list)))) pss_nil)
      (pss_one (ps_ret (pe_callTy call_tuple_of (by rfl) B.tuple (by decide +kernel) (pa_cons (pv 1) pa_nil)))))), ?_⟩
    obtain ⟨n0, hp0⟩ := id hp
    refine ⟨Nat.zero_le _, fun l hl => ?_⟩
    have hpl : p ≠ l := ne_of_none hp0 hl
    have hp1 : (upd H l (.lst [])) p = some (.lst [.int n0]) := by rw [upd_ne hpl]; exact hp0
    refine ⟨_, rfl, by show 3 ≤ sizeLine; decide, fun l3 hl3 => ?_⟩
    have hpl3 : p ≠ l3 := ne_of_none hp1 hl3
    have hll3 : l ≠ l3 := ne_of_none (o := .lst []) upd_same hl3
    have hp2 : (upd (upd H l (.lst [])) l3 (.lst [.int 3, .int 5, .int 8])) p = some (.lst [.int n0]) := by rw [upd_ne hpl3]; exact hp1
    refine ⟨_, rfl, p, n0, 3, rfl, hp2, by decide, by decide, ?_⟩
    obtain ⟨j, hj, ej⟩ := mod_nat (n := n0) (m := 3) (by decide)
    refine ⟨l3, d3.map nV, _, nV (d3.getD j 0), rfl, rfl, SqL.of (by rw [upd_ne (Ne.symm hpl3), upd_same]; rfl), ?_, ?_⟩
    · rw [show (n0 % 3 : Int) = (j : Int) from ej]; exact getD_at hj
    have h3 := d3_ok j hj
    generalize d3.getD j 0 = d at h3
    obtain ⟨m, hm, em⟩ := mod_nat (n := n0 / 3) (m := d) (by omega)
    refine ⟨p, n0 / 3, _, rfl, upd_same, by omega, ?_, _, _, rfl, rfl, _, rfl, ?_, ?_, ?_⟩
    · have e : ((d : Nat) : Int).natAbs = d := by omega
      rw [e]
      exact Nat.lt_of_le_of_lt (Nat.log2_le_self _) (by omega)
    · rw [em]; omega
    · rw [em]; omega
    rw [em, show ((1 : Int) + (m : Int)).toNat = 1 + m by omega]
    have hl0 : H l = none := hl
    have hl30 : H l3 = none := by rw [upd_ne (Ne.symm hll3)] at hl3; exact hl3
    refine for_range (fun i σ H2 => ∃ (ps : List Addr) (ks : KS) (o2 o3 o4 o5 o6 : Option V), KSt p l H H2 i ps ks ∧ σ = [some (.ref p), some (.ref l), o2, o3, o4, o5, o6]) ⟨[], [], _, _, _, _, _, ?_, rfl⟩ ?_ ?_
    · refine ⟨?_, ⟨_, upd_same⟩, ?_, .nil, Nat.le_refl _, (fun z => absurd z (by decide)), (fun k z => nomatch z), (fun k z => nomatch z), List.nodup_nil⟩
      · exact ((Sam.of ((Same.refl H).over hl0)).over hl30).trans (Sam.upd.trans Sam.upd)
      · rw [upd_ne (Ne.symm hpl), upd_ne (Ne.symm hpl), upd_ne hll3, upd_same]
        rfl
    · rintro i σ H2 hi ⟨ps, ks, o2, o3, o4, o5, o6, st, rfl⟩
      refine ⟨_, rfl, p, rfl, st.pot, fun x H3 S3 hp3 hx => ?_⟩
      have T3 : Tp H2 H3 := Tp.sam st.pot S3
      have hl3' : H3 l = some (.lst (ps.map V.ref)) := S3 _ _ st.at_ (Ne.symm hpl)
      have pr3 := T3.pairs st.pr
      have hlen : ps.length = ks.length := Paired.length pr3
      have hle := st.le
      refine ⟨_, rfl, _, rfl, l, rfl, ⟨_, SqL.of hl3'⟩, fun D hD => ?_⟩
      refine lc_valsL (xs := ps.map V.ref) (ys := (ks.map (·.1)).map V.str) hD (by rw [List.length_map]; omega) (by rw [List.length_map, List.length_map, List.length_map, hlen]) (SqL.of hl3') ?_ ?_
      · intro i' x' y H4 Q' hx' hy S4 k
        rw [List.getElem?_map] at hx'
        obtain ⟨q', hq', rfl⟩ := Option.map_eq_some_iff.mp hx'
        obtain ⟨kk, hkk, hpk⟩ := paired_at i' pr3 hq'
        rw [List.getElem?_map, List.getElem?_map, hkk] at hy
        cases hy
        exact ⟨q', _, rfl, SqT.of (S4 _ _ hpk), rfl, _, _, rfl, _, _, rfl, rfl, rfl, _, rfl, k _ (Same.refl _)⟩
      intro H4 S4 hD4
      have hpD : p ≠ D := by
        obtain ⟨k, z⟩ := hp3
        exact ne_of_none z hD
      have S04 : Sam p H H4 := (st.S.trans S3).trans (Sam.of S4)
      refine ⟨D, _, rfl, .inl (SqL.of hD4), rfl, flat_strs _, _, rfl, ?_⟩
      refine ite2 (fun hin => ?_) (fun hin => ?_)
      · have hin : (!inV (.str x) ((ks.map (·.1)).map V.str)) = true := hin
        rw [inV_str] at hin
        have hnin : x ∉ ks.map (·.1) := by simpa using hin
        obtain ⟨n4, hp4⟩ := PotAt.same S4 hp3
        have hl4 := S4 _ _ hl3'
        refine ⟨_, rfl, .inl ⟨rfl, _, SqL.of hl4⟩, _, rfl, by show 6 ≤ sizeLine; decide, fun l6 hl6 => ?_⟩
        have hpl6 : p ≠ l6 := ne_of_none hp4 hl6
        obtain ⟨j6, hj6, ej6⟩ := mod_nat (n := n4) (m := 6) (by decide)
        refine ⟨_, rfl, p, n4, 6, rfl, by rw [upd_ne hpl6]; exact hp4, by decide, by decide, l6, d6.map nV, _, nV (d6.getD j6 0), rfl, rfl, SqL.of (by rw [upd_ne (Ne.symm hpl6), upd_same]; rfl), ?_, ?_⟩
        · rw [show (n4 % 6 : Int) = (j6 : Int) from ej6]; exact getD_at hj6
        have h6 := d6_ok j6 hj6
        generalize d6.getD j6 0 = d' at h6
        have hl6' : (upd (upd H4 l6 (.lst [.int 0, .int 1, .int 2, .int 3, .int 2, .int 0])) p (.lst [.int (n4 / 6)])) l = some (.lst (ps.map V.ref)) := by
          rw [upd_ne (Ne.symm hpl), upd_ne (ne_of_none hl4 hl6)]; exact hl4
        have hp6 : PotAt (upd (upd H4 l6 (.lst [.int 0, .int 1, .int 2, .int 3, .int 2, .int 0])) p (.lst [.int (n4 / 6)])) p := ⟨_, upd_same⟩
        have S6 : Sam p H4 (upd (upd H4 l6 (.lst [.int 0, .int 1, .int 2, .int 3, .int 2, .int 0])) p (.lst [.int (n4 / 6)])) := (Sam.of (same_new hl6)).trans Sam.upd
        generalize upd (upd H4 l6 (.lst [.int 0, .int 1, .int 2, .int 3, .int 2, .int 0])) p (.lst [.int (n4 / 6)]) = H6 at hl6' hp6 S6 ⊢
        have pr6 := (Tp.sam ⟨n4, hp4⟩ S6).pairs ((Tp.of S4).pairs pr3)
        refine ⟨by show 2 ≤ sizeLine; decide, fun t ht => ?_⟩
        have hlt : l ≠ t := ne_of_none hl6' ht
        have hpt : p ≠ t := by
          obtain ⟨k, z⟩ := hp6
          exact ne_of_none z ht
        have hl7 : (upd H6 t (.tup [.str x, nV d'])) l = some (.lst (ps.map V.ref)) := by rw [upd_ne hlt]; exact hl6'
        have S06 : Sam p H H6 := S04.trans S6
        refine ⟨l, _, _, rfl, rfl, hl7, by rw [List.length_map]; exact small1000 (by omega), ?_⟩
        refine ⟨ps ++ [t], ks ++ [(x, d')], _, _, _, _, _, ⟨?_, ?_, ?_, ?_, ?_, ?_, ?_, ?_, ?_⟩, rfl⟩
        · exact (S06.over (S06.free (Ne.symm hpt) ht)).over hl0
        · exact (hp6.over ht).upd hpl
        · rw [upd_same, List.map_append]; rfl
        · refine (Tp.lst (ys := ps.map V.ref ++ [V.ref t]) hl7).pairs ?_
          exact paired_snoc (show PairAt _ t (x, d') from upd_same) ((Tp.of (same_new ht)).pairs pr6)
        · rw [List.length_append, List.length_singleton]; omega
        · intro _; rw [List.length_append, List.length_singleton]; omega
        · intro k hk
          rcases List.mem_append.mp hk with z | z
          · exact st.nm k z
          · rw [List.mem_singleton.mp z]; exact hx
        · intro k hk
          rcases List.mem_append.mp hk with z | z
          · exact st.ar k z
          · rw [List.mem_singleton.mp z]; exact h6
        · rw [List.map_append]; exact nd_snoc st.nd hnin
      · have hin : ¬ (!inV (.str x) ((ks.map (·.1)).map V.str)) = true := hin
        rw [inV_str] at hin
        have hnin : x ∈ ks.map (·.1) := by simpa using hin
        refine ⟨ps, ks, _, _, _, _, _, ⟨S04, PotAt.same S4 hp3, S4 _ _ hl3', (Tp.of S4).pairs pr3, by omega, fun _ => ?_, st.nm, st.ar, st.nd⟩, rfl⟩
        have := List.length_pos_of_mem hnin
        rw [List.length_map] at this
        exact this
    · rintro σ H2 ⟨ps, ks, o2, o3, o4, o5, o6, st, rfl⟩
      have hlen : ps.length = ks.length := Paired.length st.pr
      have hle := st.le
      have hpos := st.pos (by omega)
      refine ⟨_, rfl, l, rfl, ⟨_, SqL.of st.at_⟩, fun D hD => ?_⟩
      refine lc_valsL (xs := ps.map V.ref) (ys := (ks.map (·.2)).map nV) hD (by rw [List.length_map]; omega) (by rw [List.length_map, List.length_map, List.length_map, hlen]) (SqL.of st.at_) ?_ ?_
      · intro i' x' y H4 Q' hx' hy S4 k
        rw [List.getElem?_map] at hx'
        obtain ⟨q', hq', rfl⟩ := Option.map_eq_some_iff.mp hx'
        obtain ⟨kk, hkk, hpk⟩ := paired_at i' st.pr hq'
        rw [List.getElem?_map, List.getElem?_map, hkk] at hy
        cases hy
        exact ⟨q', _, rfl, SqT.of (S4 _ _ hpk), rfl, _, _, rfl, _, _, rfl, rfl, rfl, _, rfl, k _ (Same.refl _)⟩
      intro H4 S4 hD4
      obtain ⟨n4, hp4⟩ := PotAt.same S4 st.pot
      have S04 : Sam p H H4 := st.S.trans (Sam.of S4)
      have hl4 := S4 _ _ st.at_
      have pr4 := (Tp.of S4).pairs st.pr
      refine ⟨D, _, rfl, .inl (SqL.of hD4), rfl, flat_nats _, _, rfl, ?_⟩
      refine ite2 (fun hin => ?_) (fun hin => ?_)
      · obtain ⟨at', hat, eat⟩ := mod_nat (n := n4) (m := ps.length) (by omega)
        refine ⟨_, rfl, _, rfl, l, _, rfl, .inl (SqL.of hl4), p, n4, _, rfl, hp4, ?_, ?_, ?_⟩
        · rw [List.length_map]; omega
        · rw [List.length_map]
          have e : ((ps.length : Nat) : Int).natAbs = ps.length := by omega
          rw [e]
          exact Nat.lt_of_le_of_lt (Nat.log2_le_self _) (by omega)
        rw [List.length_map, eat]
        have hl5 : (upd H4 p (.lst [.int (n4 / (ps.length : Int))])) l = some (.lst (ps.map V.ref)) := by rw [upd_ne (Ne.symm hpl)]; exact hl4
        have hp5 : PotAt (upd H4 p (.lst [.int (n4 / (ps.length : Int))])) p := ⟨_, upd_same⟩
        have S5 : Sam p H4 (upd H4 p (.lst [.int (n4 / (ps.length : Int))])) := Sam.upd
        generalize upd H4 p (.lst [.int (n4 / (ps.length : Int))]) = H5 at hl5 hp5 S5 ⊢
        have pr5 := (Tp.sam ⟨n4, hp4⟩ S5).pairs pr4
        have hpa : ps[at']? = some ps[at'] := List.getElem?_eq_getElem hat
        obtain ⟨kk, hkk, hpk⟩ := paired_at at' pr5 hpa
        refine ⟨_, rfl, _, rfl, l, _, _, .ref ps[at'], rfl, rfl, SqL.of hl5, ?_, ps[at'], _, _, _, rfl, rfl, SqT.of hpk, rfl, by show 2 ≤ sizeLine; decide, fun t ht => ?_⟩
        · exact atI_nat (by rw [List.getElem?_map, hpa]; rfl)
        have hlt : l ≠ t := ne_of_none hl5 ht
        have hpt : p ≠ t := by
          obtain ⟨k, z⟩ := hp5
          exact ne_of_none z ht
        have S05 : Sam p H H5 := S04.trans S5
        have hl6 : (upd H5 t (.tup [.str kk.1, .int 0])) l = some (.lst (ps.map V.ref)) := by rw [upd_ne hlt]; exact hl5
        refine ⟨_, rfl, _, rfl, l, _, _, at', rfl, rfl, hl6, by rw [List.length_map]; exact ixN_nat hat, ?_⟩
        have pr6 : Paired (PairAt (upd (upd H5 t (.tup [.str kk.1, .int 0])) l (.lst ((ps.set at' t).map V.ref)))) (ps.set at' t) (ks.set at' (kk.1, 0)) := by
          refine (Tp.lst (ys := (ps.set at' t).map V.ref) hl6).pairs ?_
          exact paired_set (show PairAt _ t (kk.1, 0) from upd_same) at' ((Tp.of (same_new ht)).pairs pr5)
        have e7 : (ps.map V.ref).set at' (V.ref t) = (ps.set at' t).map V.ref := by rw [List.map_set]
        rw [e7]
        refine ⟨_, rfl, l, _, rfl, .inl ⟨SqL.of upd_same, fun r hr' => ?_⟩⟩
        have S07 : Sam p H (upd (upd H5 t (.tup [.str kk.1, .int 0])) l (.lst ((ps.set at' t).map V.ref))) := (S05.over (S05.free (Ne.symm hpt) ht)).over hl0
        have hp7 : PotAt (upd (upd H5 t (.tup [.str kk.1, .int 0])) l (.lst ((ps.set at' t).map V.ref))) p := (hp5.over ht).upd hpl
        generalize upd (upd H5 t (.tup [.str kk.1, .int 0])) l (.lst ((ps.set at' t).map V.ref)) = H7 at pr6 hr' S07 hp7
        have hpr : p ≠ r := by
          obtain ⟨k, z⟩ := hp7
          exact ne_of_none z hr'
        refine q r (ks.set at' (kk.1, 0)) _ (S07.over (S07.free (Ne.symm hpr) hr')) (hp7.over hr') ⟨_, upd_same, (Tp.of (same_new hr')).pairs pr6⟩ ⟨?_, ?_, ?_, ?_, ?_⟩
        · rw [List.length_set]; omega
        · intro k hk
          rcases List.mem_or_eq_of_mem_set hk with z | z
          · exact st.nm k z
          · rw [z]; exact (show NmOk kk.1 from st.nm kk (List.mem_of_getElem? hkk))
        · intro k hk
          rcases List.mem_or_eq_of_mem_set hk with z | z
          · exact st.ar k z
          · rw [z]; exact Nat.zero_le _
        · have e : (ks.set at' (kk.1, 0)).map (·.1) = ks.map (·.1) := by
            rw [List.map_set]
            have : (ks.map (·.1))[at']? = some kk.1 := by rw [List.getElem?_map, hkk]; rfl
            obtain ⟨h1, h2⟩ := List.getElem?_eq_some_iff.mp this
            rw [← h2]
            exact List.set_getElem_self h1
          rw [e]; exact st.nd
        · exact ⟨(kk.1, 0), List.mem_set (by omega) _, rfl⟩
      · have hin : ¬ (!inV (nV 0) ((ks.map (·.2)).map nV)) = true := hin
        rw [inV_nat] at hin
        have hz : 0 ∈ ks.map (·.2) := by simpa using hin
        obtain ⟨k0, hk0, ek0⟩ := List.mem_map.mp hz
        refine ⟨_, rfl, l, _, rfl, .inl ⟨SqL.of hl4, fun r hr' => ?_⟩⟩
        have hpr : p ≠ r := ne_of_none hp4 hr'
        refine q r ks _ (S04.over (S04.free (Ne.symm hpr) hr')) (PotAt.over ⟨_, hp4⟩ hr') ⟨ps, upd_same, (Tp.of (same_new hr')).pairs pr4⟩ ⟨by omega, st.nm, st.ar, st.nd, k0, hk0, ek0⟩
end
end K3


set_option Elab.async false
set_option linter.all false
set_option maxRecDepth 100000
set_option maxHeartbeats 800000
namespace LN
open PySem L2
/-! ### inner rows, parts, depth -/
open Classical in
noncomputable def endF (l : List Nat) (i : Nat) : Nat := if h : ∃ e, EndAt l i e then h.choose else 0
theorem EndAt.endF {l : List Nat} {i e : Nat} (h : EndAt l i e) : endF l i = e := by
  unfold LN.endF
  rw [dif_pos ⟨e, h⟩]
  exact EndAt.inj (Classical.choose_spec (⟨e, h⟩ : ∃ e, EndAt l i e)) h
theorem endF_at {l : List Nat} (w : rem 1 l = some []) {i : Nat} (hi : i < l.length) : EndAt l i (endF l i) := by
  obtain ⟨e, h⟩ := end_ex w hi
  rw [h.endF]
  exact h
noncomputable def nthB (l : List Nat) (b : Nat) : Nat → Nat
  | 0 => b
  | j + 1 => endF l (nthB l b j)
noncomputable def begF (l : List Nat) (n b : Nat) : List Nat := (List.range n).map (nthB l b)
noncomputable def subF (ks : KS) (ns : List Nat) (i : Nat) : List Nat := (ns.drop i).take (endF (arL ks ns) i - i)
noncomputable def partsF (ks : KS) (ns : List Nat) : List (List Nat) := (begF (arL ks ns) (arN ks (ns.getD 0 0)) 1).map (subF ks ns)
theorem arL_len {ks : KS} {ns : List Nat} : (arL ks ns).length = ns.length := by simp
/-- behind j parts of the one that begins at p -/
theorem nthB_ok {ks : KS} {ns : List Nat} (ok : TOk ks ns) {p : Nat} (hp : p < ns.length) : ∀ j, j ≤ arN ks ns[p] → rem j ((arL ks ns).drop (p + 1)) = some ((arL ks ns).drop (nthB (arL ks ns) (p + 1) j)) ∧ p + 1 ≤ nthB (arL ks ns) (p + 1) j ∧ nthB (arL ks ns) (p + 1) j ≤ ns.length ∧ (j < arN ks ns[p] → nthB (arL ks ns) (p + 1) j < ns.length)
  | 0, _ => by
    refine ⟨rem_zero _, Nat.le_refl _, hp, fun h => ?_⟩
    show p + 1 < ns.length
    have E0 := endF_at ok.rem (i := p) (by rw [arL_len]; exact hp)
    have r := E0.rem
    rw [arL_at hp, rem_cons, Nat.zero_add] at r
    obtain ⟨x, y, z⟩ := rem_pos h r
    have := congrArg List.length z
    rw [List.length_drop, List.length_cons, arL_len] at this
    omega
  | j + 1, hj => by
    obtain ⟨h1, h2, h3, h4⟩ := nthB_ok ok hp j (by omega)
    have hlt := h4 (by omega)
    have E1 := endF_at ok.rem (i := nthB (arL ks ns) (p + 1) j) (by rw [arL_len]; exact hlt)
    have r1 : rem (j + 1) ((arL ks ns).drop (p + 1)) = some ((arL ks ns).drop (nthB (arL ks ns) (p + 1) (j + 1))) := by
      rw [rem_add, h1]
      exact E1.rem
    have l1 := E1.lt
    have l2 := E1.le
    rw [arL_len] at l2
    refine ⟨r1, by show p + 1 ≤ endF _ _; omega, l2, fun h => ?_⟩
    have E0 := endF_at ok.rem (i := p) (by rw [arL_len]; exact hp)
    have r := E0.rem
    rw [arL_at hp, rem_cons, Nat.zero_add, show arN ks ns[p] = (j + 1) + (arN ks ns[p] - (j + 1)) by omega, rem_add, r1] at r
    obtain ⟨x, y, z⟩ := rem_pos (by omega) (show rem (arN ks ns[p] - (j + 1)) ((arL ks ns).drop (nthB (arL ks ns) (p + 1) (j + 1))) = some _ from r)
    have := congrArg List.length z
    rw [List.length_drop, List.length_cons, arL_len] at this
    omega
theorem nthB_end {ks : KS} {ns : List Nat} (ok : TOk ks ns) {p : Nat} (hp : p < ns.length) : nthB (arL ks ns) (p + 1) (arN ks ns[p]) = endF (arL ks ns) p := by
  obtain ⟨h1, h2, h3, _⟩ := nthB_ok ok hp _ (Nat.le_refl _)
  have E0 := endF_at ok.rem (i := p) (by rw [arL_len]; exact hp)
  have r := E0.rem
  rw [arL_at hp, rem_cons, Nat.zero_add, h1] at r
  exact drop_inj (by rw [arL_len]; exact h3) E0.le (Option.some.inj r)
/-- what is whole by itself within more -/
theorem rem_app : ∀ (l s : List Nat) (k : Nat) (r : List Nat), rem k l = some r → rem k (l ++ s) = some (r ++ s)
  | l, s, 0, r, h => by rw [rem_zero] at h ⊢; cases h; rfl
  | [], s, k + 1, r, h => by rw [rem_nil] at h; cases h
  | a :: l, s, k + 1, r, h => by
    rw [rem_cons] at h
    rw [List.cons_append, rem_cons]
    exact rem_app l s (k + a) r h
theorem rem_pre : ∀ (l s : List Nat) (k : Nat), rem k (l ++ s) = some s → rem k l = some []
  | l, s, 0, h => by
    rw [rem_zero] at h ⊢
    have := congrArg List.length (Option.some.inj h)
    rw [List.length_append] at this
    rw [List.length_eq_zero_iff.mp (show l.length = 0 by omega)]
  | [], s, k + 1, h => by
    obtain ⟨n, h1, h2, h3⟩ := rem_drop s (k + 1) s (by simpa using h)
    have := congrArg List.length h2
    rw [List.length_drop] at this
    have hz : s.length = 0 := by omega
    rw [List.length_eq_zero_iff.mp hz] at h
    cases h
  | a :: l, s, k + 1, h => by
    rw [List.cons_append, rem_cons] at h
    rw [rem_cons]
    exact rem_pre l s (k + a) h
theorem sub_split {ks : KS} {ns : List Nat} (ok : TOk ks ns) {p : Nat} (hp : p < ns.length) : (arL ks ns).drop p = arL ks (subF ks ns p) ++ (arL ks ns).drop (endF (arL ks ns) p) := by
  have E0 := endF_at ok.rem (i := p) (by rw [arL_len]; exact hp)
  have l1 := E0.lt
  unfold subF arL
  rw [List.map_take, List.map_drop]
  have e : ((ns.map (arN ks)).drop (endF (ns.map (arN ks)) p)) = ((ns.map (arN ks)).drop p).drop (endF (ns.map (arN ks)) p - p) := by
    rw [List.drop_drop]
    congr 1
    have : p < endF (ns.map (arN ks)) p := l1
    omega
  rw [e, List.take_append_drop]
theorem sub_ok {ks : KS} {ns : List Nat} (ok : TOk ks ns) {p : Nat} (hp : p < ns.length) : TOk ks (subF ks ns p) := by
  have E0 := endF_at ok.rem (i := p) (by rw [arL_len]; exact hp)
  refine ⟨?_, fun n hn => ?_, ?_⟩
  · unfold subF
    rw [List.length_take, List.length_drop]
    have := ok.le
    omega
  · exact ok.lt n (List.mem_of_mem_drop (List.mem_of_mem_take hn))
  · have := E0.rem
    rw [sub_split ok hp] at this
    exact rem_pre _ _ 1 this
theorem sub_len {ks : KS} {ns : List Nat} (ok : TOk ks ns) {p : Nat} (hp : p < ns.length) : (subF ks ns p).length = endF (arL ks ns) p - p := by
  have E0 := endF_at ok.rem (i := p) (by rw [arL_len]; exact hp)
  have := E0.le
  rw [arL_len] at this
  unfold subF
  rw [List.length_take, List.length_drop]
  omega
/-- ends within are ends without -/
theorem end_sub {ks : KS} {ns : List Nat} (ok : TOk ks ns) {p : Nat} (hp : p < ns.length) {i : Nat} (hi : i < (subF ks ns p).length) : endF (arL ks (subF ks ns p)) i + p = endF (arL ks ns) (p + i) := by
  have E0 := endF_at ok.rem (i := p) (by rw [arL_len]; exact hp)
  have E1 := endF_at (sub_ok ok hp).rem (i := i) (by rw [arL_len]; exact hi)
  have hs := sub_len ok hp
  have l0 := E0.le
  have l00 := E0.lt
  have l1 := E1.le
  rw [arL_len] at l0 l1
  have l2 := E1.lt
  have dr : ∀ x, x ≤ (subF ks ns p).length → (arL ks (subF ks ns p)).drop x ++ (arL ks ns).drop (endF (arL ks ns) p) = (arL ks ns).drop (p + x) := fun x hx => by
    rw [← List.drop_drop, sub_split ok hp, List.drop_append_of_le_length (by rw [arL_len]; exact hx)]
  have E2 : EndAt (arL ks ns) (p + i) (endF (arL ks (subF ks ns p)) i + p) := by
    refine ⟨by omega, by rw [arL_len]; omega, ?_⟩
    have := rem_app _ ((arL ks ns).drop (endF (arL ks ns) p)) 1 _ E1.rem
    rw [dr i (by omega), dr _ l1] at this
    rw [this, Nat.add_comm]
  exact E2.endF.symm
theorem sub_at {ks : KS} {ns : List Nat} (ok : TOk ks ns) {p : Nat} (hp : p < ns.length) {i : Nat} (hi : i < (subF ks ns p).length) : (subF ks ns p)[i] = ns[p + i]'(by have := sub_len ok hp; have E0 := endF_at ok.rem (i := p) (by rw [arL_len]; exact hp); have := E0.le; rw [arL_len] at this; omega) := by
  have h1 : (subF ks ns p)[i]? = ns[p + i]? := by
    have hi' : i < endF (arL ks ns) p - p := by rw [← sub_len ok hp]; exact hi
    show ((ns.drop p).take (endF (arL ks ns) p - p))[i]? = _
    rw [List.getElem?_take_of_lt hi', List.getElem?_drop]
  rw [List.getElem?_eq_getElem hi] at h1
  exact (List.getElem?_eq_some_iff.mp h1.symm).2.symm
theorem sub_sub {ks : KS} {ns : List Nat} (ok : TOk ks ns) {p : Nat} (hp : p < ns.length) {i : Nat} (hi : i < (subF ks ns p).length) : subF ks (subF ks ns p) i = subF ks ns (p + i) := by
  have e := end_sub ok hp hi
  have E1 := endF_at (sub_ok ok hp).rem (i := i) (by rw [arL_len]; exact hi)
  have l1 := E1.le
  rw [arL_len, sub_len ok hp] at l1
  have l2 := E1.lt
  show ((subF ks ns p).drop i).take (endF (arL ks (subF ks ns p)) i - i) = (ns.drop (p + i)).take (endF (arL ks ns) (p + i) - (p + i))
  rw [← e, show endF (arL ks (subF ks ns p)) i + p - (p + i) = endF (arL ks (subF ks ns p)) i - i by omega]
  generalize endF (arL ks (subF ks ns p)) i = z at l1 l2 ⊢
  unfold subF
  rw [List.drop_take, List.take_take, List.drop_drop]
  congr 1
  omega
theorem sub_head {ks : KS} {ns : List Nat} (ok : TOk ks ns) {p : Nat} (hp : p < ns.length) : 0 < (subF ks ns p).length := by
  have E0 := endF_at ok.rem (i := p) (by rw [arL_len]; exact hp)
  have := E0.lt
  rw [sub_len ok hp]
  omega
theorem getD_head {ns : List Nat} (h : 0 < ns.length) : ns.getD 0 0 = ns[0] := by rw [List.getD_eq_getElem?_getD, List.getElem?_eq_getElem h]; rfl
theorem nthB_sub {ks : KS} {ns : List Nat} (ok : TOk ks ns) {p : Nat} (hp : p < ns.length) : ∀ j, j ≤ arN ks ns[p] → nthB (arL ks (subF ks ns p)) 1 j + p = nthB (arL ks ns) (p + 1) j
  | 0, _ => by show 1 + p = p + 1; omega
  | j + 1, hj => by
    have ih := nthB_sub ok hp j (by omega)
    have h0 := sub_head ok hp
    have e0 : (subF ks ns p)[0] = ns[p] := by rw [sub_at ok hp h0]; rfl
    obtain ⟨_, _, _, h4⟩ := nthB_ok (sub_ok ok hp) (p := 0) h0 j (by rw [e0]; omega)
    have hlt := h4 (by rw [e0]; omega)
    show endF (arL ks (subF ks ns p)) (nthB (arL ks (subF ks ns p)) 1 j) + p = endF (arL ks ns) (nthB (arL ks ns) (p + 1) j)
    rw [end_sub ok hp hlt, ← ih, Nat.add_comm p]
/-- the parts of an inner one -/
theorem parts_sub {ks : KS} {ns : List Nat} (ok : TOk ks ns) {p : Nat} (hp : p < ns.length) : partsF ks (subF ks ns p) = (begF (arL ks ns) (arN ks ns[p]) (p + 1)).map (subF ks ns) := by
  have h0 := sub_head ok hp
  have e0 : (subF ks ns p)[0] = ns[p] := by rw [sub_at ok hp h0]; rfl
  unfold partsF begF
  rw [getD_head h0, e0, List.map_map, List.map_map]
  refine List.map_congr_left fun j hj => ?_
  have hj := List.mem_range.mp hj
  obtain ⟨_, _, _, h4⟩ := nthB_ok (sub_ok ok hp) (p := 0) h0 j (by rw [e0]; omega)
  show subF ks (subF ks ns p) (nthB (arL ks (subF ks ns p)) 1 j) = subF ks ns (nthB (arL ks ns) (p + 1) j)
  rw [sub_sub ok hp (h4 (by rw [e0]; omega)), ← nthB_sub ok hp j (by omega), Nat.add_comm p]
theorem sub_zero {ks : KS} {ns : List Nat} (ok : TOk ks ns) : subF ks ns 0 = ns := by
  have e : endF (arL ks ns) 0 = ns.length := EndAt.endF ⟨ok.pos, by rw [arL_len]; exact Nat.le_refl _, by
    rw [List.drop_zero, ok.rem]
    congr 1
    exact (List.drop_of_length_le (by rw [arL_len]; exact Nat.le_refl _)).symm⟩
  unfold subF
  rw [e, List.drop_zero, Nat.sub_zero, List.take_length]
theorem parts_mem {ks : KS} {ns r : List Nat} (ok : TOk ks ns) (hr : r ∈ partsF ks ns) : TOk ks r ∧ r.length < ns.length := by
  have h0 := ok.pos
  unfold partsF begF at hr
  rw [getD_head h0] at hr
  obtain ⟨b, hb, rfl⟩ := List.mem_map.mp hr
  obtain ⟨j, hj, rfl⟩ := List.mem_map.mp hb
  have hj := List.mem_range.mp hj
  obtain ⟨_, h2, _, h4⟩ := nthB_ok ok (p := 0) h0 j (by omega)
  have hlt := h4 hj
  refine ⟨sub_ok ok hlt, ?_⟩
  rw [sub_len ok hlt]
  have E := endF_at ok.rem (i := nthB (arL ks ns) (0 + 1) j) (by rw [arL_len]; exact hlt)
  have := E.le
  rw [arL_len] at this
  omega
/-! ### depth -/
def mx (f : List Nat → Nat) (L : List (List Nat)) : Nat := L.foldr (fun r m => max (f r) m) 0
theorem mx_cons (f : List Nat → Nat) (r : List Nat) (L : List (List Nat)) : mx f (r :: L) = max (f r) (mx f L) := rfl
theorem mx_app (f : List Nat → Nat) : ∀ (L M : List (List Nat)), mx f (L ++ M) = max (mx f L) (mx f M)
  | [], M => by show mx f M = max 0 (mx f M); omega
  | r :: L, M => by
    rw [List.cons_append, mx_cons, mx_cons, mx_app f L M]
    omega
theorem mx_congr {f g : List Nat → Nat} : ∀ {L : List (List Nat)}, (∀ r ∈ L, f r = g r) → mx f L = mx g L
  | [], _ => rfl
  | r :: L, h => by
    rw [mx_cons, mx_cons, h r (.head _), mx_congr fun q hq => h q (.tail _ hq)]
noncomputable def dpR (ks : KS) : Nat → List Nat → Nat
  | 0, _ => 0
  | f + 1, r => 1 + mx (dpR ks f) (partsF ks r)
theorem dpR_fuel {ks : KS} : ∀ (f g : Nat) (r : List Nat), TOk ks r → r.length ≤ f → r.length ≤ g → dpR ks f r = dpR ks g r
  | 0, g, r, ok, h1, _ => by have := ok.pos; omega
  | f + 1, 0, r, ok, _, h2 => by have := ok.pos; omega
  | f + 1, g + 1, r, ok, h1, h2 => by
    show 1 + mx (dpR ks f) (partsF ks r) = 1 + mx (dpR ks g) (partsF ks r)
    rw [mx_congr fun q hq => ?_]
    obtain ⟨o, l⟩ := parts_mem ok hq
    exact dpR_fuel f g q o (by omega) (by omega)
noncomputable def dpF (ks : KS) (r : List Nat) : Nat := dpR ks r.length r
theorem dp_eq {ks : KS} {r : List Nat} (ok : TOk ks r) : dpF ks r = 1 + mx (dpF ks) (partsF ks r) := by
  have h := ok.pos
  unfold dpF
  rw [show r.length = (r.length - 1) + 1 by omega]
  show 1 + mx (dpR ks (r.length - 1)) (partsF ks r) = _
  rw [mx_congr fun q hq => ?_]
  obtain ⟨o, l⟩ := parts_mem ok hq
  exact dpR_fuel _ _ q o (by omega) (Nat.le_refl _)
/-- one level below -/
theorem mx_below {ks : KS} : ∀ {L : List (List Nat)}, (∀ r ∈ L, TOk ks r) → L ≠ [] → mx (dpF ks) L = 1 + mx (dpF ks) (L.flatMap (partsF ks))
  | [], _, h => absurd rfl h
  | [r], h, _ => by
    rw [mx_cons, dp_eq (h r (.head _)), List.flatMap_cons, List.flatMap_nil, List.append_nil]
    show max _ 0 = _
    omega
  | r :: q :: L, h, _ => by
    have e : (r :: q :: L).flatMap (partsF ks) = partsF ks r ++ (q :: L).flatMap (partsF ks) := List.flatMap_cons
    rw [mx_cons, dp_eq (h r (.head _)), mx_below (L := q :: L) (fun z hz => h z (.tail _ hz)) (by simp), e, mx_app]
    omega
/-! ### the order of rows -/
def rk (r : List Nat) : List Int := (r.length : Int) :: r.map fun n : Nat => (n : Int)
def rle (a b : List Nat) : Prop := iOrd.kle (rk a) (rk b)
theorem cast_inj : ∀ {a b : List Nat}, (a.map fun n : Nat => (n : Int)) = (b.map fun n : Nat => (n : Int)) → a = b
  | [], [], _ => rfl
  | [], _ :: _, h => by cases h
  | _ :: _, [], h => by cases h
  | x :: a, y :: b, h => by
    obtain ⟨h1, h2⟩ := List.cons.inj h
    have h1 : (x : Int) = (y : Int) := h1
    rw [cast_inj h2, show x = y by omega]
theorem rle_anti {a b : List Nat} (h1 : rle a b) (h2 : rle b a) : a = b := by
  have := PyProof.Rows.KeyOrd.kle_antisymm h1 h2
  exact cast_inj (List.cons.inj this).2
/-- in order there is but one row of rows -/
theorem sorted_one : ∀ {l m : List (List Nat)}, l.Perm m → l.Pairwise rle → m.Pairwise rle → l = m
  | [], m, p, _, _ => (List.nil_perm.mp p).symm
  | a :: l, m, p, hl, hm => by
    cases m with
    | nil => exact absurd p.length_eq (by simp)
    | cons b m =>
      have hab : a = b := by
        by_cases e : a = b
        · exact e
        · have h1 : b ∈ l := by
            have := p.mem_iff.mpr (List.mem_cons_self (a := b) (l := m))
            rcases List.mem_cons.mp this with z | z
            · exact absurd z.symm e
            · exact z
          have h2 : a ∈ m := by
            have := p.mem_iff.mp (List.mem_cons_self (a := a) (l := l))
            rcases List.mem_cons.mp this with z | z
            · exact absurd z e
            · exact z
          exact rle_anti ((List.pairwise_cons.mp hl).1 b h1) ((List.pairwise_cons.mp hm).1 a h2)
      subst hab
      rw [sorted_one (List.perm_cons a |>.mp p) (List.pairwise_cons.mp hl).2 (List.pairwise_cons.mp hm).2]
/-- the inner ones, each once, in order -/
structure InnF (ks : KS) (ns : List Nat) (rows : List (List Nat)) : Prop where
  up : rows.Pairwise rle
  nd : rows.Nodup
  mem : ∀ r, r ∈ rows ↔ ∃ i, i < ns.length ∧ r = subF ks ns i
theorem InnF.one {ks : KS} {ns : List Nat} {l m : List (List Nat)} (a : InnF ks ns l) (b : InnF ks ns m) : l = m :=
  sorted_one ((List.perm_ext_iff_of_nodup a.nd b.nd).mpr fun r => (a.mem r).trans (b.mem r).symm) a.up b.up
end LN


set_option Elab.async false
set_option linter.all false
set_option maxRecDepth 100000
set_option maxHeartbeats 800000
namespace LN
open PySem L2
def RowsAt (H : Hp) (l : Addr) (rows : List (List Nat)) : Prop := ∃ ts : List Addr, H l = some (.lst (ts.map V.ref)) ∧ Paired (TAt H) ts rows
end LN
namespace K3
open PySem L2 LN
abbrev sPP : Stmt := top 17
abbrev sSplit : Stmt := top 18
abbrev sParts : Stmt := top 19
abbrev sKey : Stmt := top 20
def spPP : Sp := fun vs H Q _ => ∃ (a t le : Addr) (ks : KS) (ns es : List Nat) (p : Nat) (hp : p < ns.length), vs = [.ref a, .ref t, .ref le, nV p] ∧ KAt H a ks ∧ KOk ks ∧ TAt H t ns ∧ TOk ks ns ∧ H le = some (.lst (es.map nV)) ∧ Ends_ ks ns es ∧
  ∀ (l : Addr) (H' : Hp), Same H H' → H l = none → H' l = some (.lst ((begF (arL ks ns) (arN ks ns[p]) (p + 1)).map nV)) → Q (.ref l) H'
def spSplit : Sp := fun vs H Q _ => ∃ (a t : Addr) (ks : KS) (ns : List Nat), vs = [.ref a, .ref t] ∧ KAt H a ks ∧ KOk ks ∧ TAt H t ns ∧ TOk ks ns ∧ ∀ (l : Addr) (H' : Hp), Same H H' → H l = none → RowsAt H' l (partsF ks ns) → Q (.ref l) H'
structure KnownT (P : Program) (w : World) (K : PySem.W.Frag) (mg : Str → Option Value) (base : Heap) (k : Nat) (x : Str) (f : Addr) (fd : FuncData) (ps : List Str) (sp : Sp) (d0 : Value) : Prop extends Known P w K mg base CX0 k x f fd ps sp where
  b0 : Binds K fd ps [d0]
  v0 : Vals [V.int 0] [d0]
section
variable {P : Program} {w : World} {K : PySem.W.Frag} {mg : Str → Option Value} {base : Heap}
theorem free_of {H H' : Hp} {l : Addr} (S : Same H H') (h : H' l = none) : H l = none := by
  cases q : H l with
  | none => rfl
  | some o => rw [S l o q] at h; cases h
theorem scPP : FnScope ["signs", "term", "ends", "place", "places", "begin", "part"] ["signs", "term", "ends", "place"] (defScope sPP) := ⟨rfl, rfl, rfl, by decide +kernel, rfl, by decide +kernel, by decide +kernel⟩
theorem begF_len (l : List Nat) (n b : Nat) : (begF l n b).length = n := by unfold begF; simp
theorem begF_succ (l : List Nat) (n b : Nat) : begF l (n + 1) b = begF l n b ++ [nthB l b n] := by unfold begF; rw [List.range_succ, List.map_append]; rfl
theorem ok_pp {f : Addr} {fd : FuncData} (F : Fun K "part_places" "part_places" sPP f fd) (T : Blt mg) : FnOk P w K mg base CX0 2 f fd ["signs", "term", "ends", "place"] spPP := by
  refine F.ok scPP (fun vs H Q E h => ?_) (fun cdv A outer s H vs Q E hr h => ?_)
  · obtain ⟨a, t, le, ks, ns, es, p, hp, rfl, _⟩ := h
    rfl
  · obtain ⟨a, t, le, ks, ns, es, p, hp, rfl, ha, hk, ht, ok, hle, he, q⟩ := h
    refine ⟨_, pss_cons (ps_set (i := 4) scPP.nd rfl (Or.inl rfl) (pe_lst pa_nil))
      (pss_cons (ps_set (i := 5) scPP.nd rfl (Or.inl rfl) (pe_op op_add (pv 3) pe_int))
      (pss_cons (ps_for PassesOwn.never rfl (pi_range1 (by rfl) T.range (pa_cons (pe_ix ix_tup (pe_ix ix_tup (pv 0) (pe_ix ix_tup (pv 1) (pv 3) (fun _ _ => rfl)) (fun _ _ => rfl)) pe_int (fun _ _ => rfl)) pa_nil)) (pg_name (i := 6) scPP.nd rfl (Or.inl rfl))
        (pss_cons (ps_expr (pe_bm PySem.F.plainAttrs_list PySem.F.slot_list_append PySem.F.type_list_append mt_append (pv 4) (pa_cons (pv 5) pa_nil)))
        (pss_one (ps_set (i := 5) scPP.nd rfl (Or.inl rfl) (pe_ix ix_list (pv 2) (pv 5) (fun _ _ => rfl))))))
      (pss_one (ps_ret (pv 4))))), ?_⟩
    refine ⟨Nat.zero_le _, fun l hl => ⟨_, rfl, _, _, rfl, rfl, ?_⟩⟩
    have S0 : ∀ o, Same H (upd H l o) := fun o => same_new hl
    have hlt := ok.lt _ (List.getElem_mem hp)
    obtain ⟨ps, qq, x, e1, e2, e3, e4, e5⟩ := (ha.same (S0 (.lst []))).at hlt
    refine ⟨_, rfl, _, rfl, _, rfl, t, _, _, _, rfl, rfl, SqT.of (S0 _ _ _ ht), TAt.at (H := H) (t := t) hp, a, _, _, _, rfl, rfl, SqT.of e1, e3, qq, _, _, _, rfl, rfl, SqT.of e4, rfl, _, rfl, by omega, by have := arN_le hk ns[p]; omega, ?_⟩
    rw [show ((arN ks ns[p] : Nat) : Int).toNat = arN ks ns[p] by simp]
    have h3 := arN_le hk ns[p]
    refine for_range (fun j σ H2 => ∃ o6 : Option V, H2 = upd H l (.lst ((begF (arL ks ns) j (p + 1)).map nV)) ∧ σ = [some (.ref a), some (.ref t), some (.ref le), some (nV p), some (.ref l), some (nV (nthB (arL ks ns) (p + 1) j)), o6]) ⟨_, rfl, rfl⟩ ?_ ?_
    · rintro j σ H2 hj ⟨o6, rfl, rfl⟩
      obtain ⟨_, _, _, h4⟩ := nthB_ok ok hp j (by omega)
      have hb := h4 hj
      have E1 := he.2 _ hb
      refine ⟨_, rfl, .inl ⟨rfl, _, SqL.of upd_same⟩, _, rfl, l, _, _, rfl, rfl, upd_same, by rw [List.length_map, begF_len]; exact small1000 (by omega), ?_⟩
      refine ⟨_, rfl, _, rfl, le, _, _, _, rfl, rfl, SqL.of (by rw [upd_upd]; exact S0 _ _ _ hle), atI_nat (getD_map (by rw [he.1]; exact hb)), some (.int (0 + (j : Int))), ?_, ?_⟩
      · rw [upd_upd, begF_succ, List.map_append]; rfl
      · rw [← E1.endF]; rfl
    · rintro σ H2 ⟨o6, rfl, rfl⟩
      exact ⟨_, rfl, q l _ (S0 _) hl upd_same⟩
abbrev NSp : List Str := ["signs", "term", "ends", "begin"]
theorem scSp : FnScope NSp ["signs", "term"] (defScope sSplit) := ⟨rfl, rfl, rfl, by decide +kernel, rfl, by decide +kernel, by decide +kernel⟩
theorem ok_split {f fE fP : Addr} {fd fdE fdP : FuncData} (F : Fun K "split_term" "split_term" sSplit f fd) (N : Known P w K mg base CX0 2 "ends_of" fE fdE ["signs", "term"] spEnds) (L : Known P w K mg base CX0 2 "part_places" fP fdP ["signs", "term", "ends", "place"] spPP) :
    FnOk P w K mg base CX0 3 f fd ["signs", "term"] spSplit := by
  refine F.ok scSp (fun vs H Q E h => ?_) (fun cdv A outer s H vs Q E hr h => ?_)
  · obtain ⟨a, t, ks, ns, rfl, _⟩ := h
    rfl
  · obtain ⟨a, t, ks, ns, rfl, ha, hk, ht, ok, q⟩ := h
    refine ⟨_, pss_cons (ps_set (i := 2) scSp.nd rfl (Or.inr rfl) (pe_call N.G hr (by rfl) N.m N.k N.b .nil pass0 (pa_cons (pv 0) (pa_cons (pv 1) pa_nil))))
      (pss_one (ps_ret (pe_lc (own := [("begin", 3)]) (g := gName 3) (te := tSl rSlW (tVar 1) (tPart (tVar 3)) (tPart (tOp (rIxL K) (tVar 2) (tVar 3)))) (by rfl) scSp.nd (pi_list (pe_call L.G hr (by rfl) L.m L.k L.b .nil pass0 (pa_cons (pv 0) (pa_cons (pv 1) (pa_cons (pv 2) (pa_cons pe_int pa_nil)))))) (blkOk_by (own := [("begin", 3)]) (N := NSp) (sc := defScope sSplit) (by decide +kernel))
        (fun _ _ _ _ _ => pg_name (i := 3) scSp.nd rfl (Or.inl rfl)) (fun _ _ _ _ _ => pts_nil) (fun _ _ _ _ _ => pe_slice sl_tupW (pv 1) (po_some (pv 3)) (po_some (pe_ix ix_list (pv 2) (pv 3) (fun _ _ => rfl))))))), ?_⟩
    have h0 := ok.pos
    refine ⟨_, rfl, _, rfl, a, t, ks, ns, rfl, ha, hk, ht, ok, fun le es H1 S1 hle he => ?_⟩
    refine ⟨_, rfl, _, rfl, _, rfl, a, t, le, ks, ns, es, 0, h0, rfl, ha.same S1, hk, ht.same S1, ok, hle, he, fun lb H2 S2 hlb0 hlb => ?_⟩
    refine ⟨lb, rfl, ⟨_, SqL.of hlb⟩, fun D hD => ?_⟩
    have S02 := S1.trans S2
    have h3 := arN_le hk ns[0]
    refine lc_list (xs := (begF (arL ks ns) (arN ks ns[0]) (0 + 1)).map nV) (fun i H3 => Same H2 H3 ∧ ∃ ts : List Addr, H3 D = some (.lst (ts.map V.ref)) ∧ Paired (TAt H3) ts (((begF (arL ks ns) (arN ks ns[0]) 1).take i).map (subF ks ns))) ⟨same_new hD, [], upd_same, .nil⟩ (fun i H3 _ h => SqL.of (h.1 _ _ hlb)) ?_ ?_
    · rintro i x H3 hx ⟨S3, ts, hts, hpr⟩
      rw [List.getElem?_map] at hx
      obtain ⟨b, hb, rfl⟩ := Option.map_eq_some_iff.mp hx
      have hb' := hb
      unfold begF at hb'
      rw [List.getElem?_map] at hb'
      obtain ⟨j, hj, rfl⟩ := Option.map_eq_some_iff.mp hb'
      obtain ⟨hil, hj⟩ := List.getElem?_eq_some_iff.mp hj
      rw [List.getElem_range] at hj
      subst hj
      rw [List.length_range] at hil
      obtain ⟨_, _, _, h4⟩ := nthB_ok ok (p := 0) h0 i (by omega)
      have hbl := h4 hil
      have E1 := he.2 _ hbl
      have El := E1.le
      rw [arL_len] at El
      have S03 := S02.trans S3
      refine ⟨rfl, _, rfl, _, rfl, _, rfl, _, rfl, _, rfl, le, _, _, _, rfl, rfl, SqL.of (S3 _ _ (S2 _ _ hle)), atI_nat (getD_map (by rw [he.1]; exact hbl)), _, rfl, t, _, rfl, S03 _ _ ht, fun p H4 S4 hp4 => ?_⟩
      rw [cut_mid (Nat.le_of_lt E1.lt) El] at hp4
      refine ⟨_, S4 _ _ hts, by rw [List.length_map, Paired.length hpr, List.length_map, List.length_take, begF_len]; exact small1000 (by omega), ?_, ts ++ [p], ?_, ?_⟩
      · exact (S3.trans S4).over hD
      · rw [upd_same, List.map_append]; rfl
      · have hb1 : (begF (arL ks ns) (arN ks ns[0]) 1)[i]? = some (nthB (arL ks ns) (0 + 1) i) := hb
        rw [List.take_add_one, hb1, List.map_append]
        have T4 : Tp H4 (upd H4 D (.lst (ts.map V.ref ++ [V.ref p]))) := Tp.lst (S4 _ _ hts)
        refine Paired.snoc ?_ (paired_mono hpr fun x y z => T4 _ _ (S4 _ _ z))
        refine T4 _ _ ?_
        rw [hp4]
        show some (HO.tup _) = some (HO.tup _)
        unfold subF
        rw [← E1.endF]
    · rintro H3 ⟨S3, ts, hts, hpr⟩
      refine q D H3 (S02.trans S3) (free_of S02 hD) ⟨ts, hts, ?_⟩
      unfold partsF
      rw [getD_head h0]
      rw [List.length_map, begF_len, List.take_of_length_le (by rw [begF_len]; exact Nat.le_refl _)] at hpr
      exact hpr
theorem scPa : FnScope ["signs", "term"] ["signs", "term"] (defScope sParts) := ⟨rfl, rfl, rfl, by decide +kernel, rfl, by decide +kernel, by decide +kernel⟩
theorem ok_parts {f fS fT fP : Addr} {fd fdS fdT fdP : FuncData} {d0 : Value} (F : Fun K "parts_of" "parts_of" sParts f fd) (S : Known P w K mg base CX0 5 "check_signs" fS fdS ["signs"] spCkS) (T : KnownT P w K mg base 4 "check_term" fT fdT ["signs", "term", "at"] spCkT d0)
    (L : Known P w K mg base CX0 3 "split_term" fP fdP ["signs", "term"] spSplit) : FnOk P w K mg base CX0 6 f fd ["signs", "term"] spSplit := by
  refine F.ok scPa (fun vs H Q E h => ?_) (fun cdv A outer s H vs Q E hr h => ?_)
  · obtain ⟨a, t, ks, ns, rfl, _⟩ := h
    rfl
  · obtain ⟨a, t, ks, ns, rfl, ha, hk, ht, ok, q⟩ := h
    refine ⟨_, pss_cons (ps_expr (pe_call S.G hr (by rfl) S.m S.k S.b .nil pass0 (pa_cons (pv 0) pa_nil)))
      (pss_cons (ps_expr (pe_call T.G (hr.mono (by decide)) (by rfl) T.m T.k T.b0 T.v0 pass0 (pa_cons (pv 0) (pa_cons (pv 1) pa_nil))))
      (pss_one (ps_ret (pe_call L.G (hr.mono (by decide)) (by rfl) L.m L.k L.b .nil pass0 (pa_cons (pv 0) (pa_cons (pv 1) pa_nil)))))), ?_⟩
    refine ⟨_, rfl, a, ks, rfl, ha, hk, fun H1 S1 => ?_⟩
    refine ⟨_, rfl, _, rfl, a, t, ks, ns, 0, rfl, ha.same S1, hk, ht.same S1, ok, ?_⟩
    exact ⟨_, rfl, _, rfl, a, t, ks, ns, rfl, ha.same S1, hk, ht.same S1, ok, fun l H2 S2 hl hr2 => q l H2 (S1.trans S2) (free_of S1 hl) hr2⟩
theorem scKy : FnScope ["term"] ["term"] (defScope sKey) := ⟨rfl, rfl, rfl, by decide +kernel, rfl, by decide +kernel, by decide +kernel⟩
theorem ok_key {f : Addr} {fd : FuncData} (F : Fun K "order_key" "order_key" sKey f fd) (T : Blt mg) : FnOk P w K mg base CX0 2 f fd ["term"] spKy := by
  refine F.ok scKy (fun vs H Q E h => ?_) (fun cdv A outer s H vs Q E hr h => ?_)
  · obtain ⟨r, ns, rfl, _⟩ := h
    rfl
  · obtain ⟨r, ns, rfl, hr0, q⟩ := h
    refine ⟨_, pss_one (ps_ret (pe_tup (pa_cons (pe_callB call_len_seq (by rfl) T.len PySem.boot_len (pa_cons (pv 0) pa_nil)) (pa_cons (pv 0) pa_nil)))), ?_⟩
    refine ⟨_, rfl, r, _, rfl, .inr (SqT.of hr0), _, rfl, by show 2 ≤ sizeLine; decide, fun x hx => ?_⟩
    have := q x hx
    rw [List.length_map]
    exact this
end
end K3


set_option Elab.async false
set_option linter.all false
set_option maxRecDepth 100000
set_option maxHeartbeats 800000
namespace LN
open PySem L2
def natV : V → Nat
  | .int n => n.toNat
  | _ => 0
/-- the row that stands at an address -/
def rowOf (H : Hp) (q : Addr) : List Nat := match H q with
  | some (.tup xs) => xs.map natV
  | _ => []
def κr (H : Hp) : V → List Int
  | .ref q => rk (rowOf H q)
  | _ => []
theorem natV_map (ns : List Nat) : (ns.map nV).map natV = ns := by
  rw [List.map_map]
  refine (List.map_congr_left fun n _ => ?_).trans (List.map_id ns)
  show ((n : Int)).toNat = n
  simp
theorem TAt.row {H : Hp} {t : Addr} {ns : List Nat} (h : TAt H t ns) : rowOf H t = ns := by
  unfold rowOf
  rw [show H t = some (.tup (ns.map nV)) from h]
  exact natV_map ns
theorem paired_rows {H : Hp} : ∀ {ts : List Addr} {rows : List (List Nat)}, Paired (TAt H) ts rows → rows = ts.map (rowOf H) ∧ ∀ t ∈ ts, TAt H t (rowOf H t)
  | _, _, .nil => ⟨rfl, fun t z => nomatch z⟩
  | _, _, .cons r p => by
    obtain ⟨e, h⟩ := paired_rows p
    refine ⟨by rw [List.map_cons, r.row, ← e], fun t ht => ?_⟩
    rcases List.mem_cons.mp ht with rfl | z
    · rw [r.row]; exact r
    · exact h t z
theorem paired_of {H : Hp} : ∀ {ts : List Addr}, (∀ t ∈ ts, TAt H t (rowOf H t)) → Paired (TAt H) ts (ts.map (rowOf H))
  | [], _ => .nil
  | t :: ts, h => .cons (h t (.head _)) (paired_of fun u hu => h u (.tail _ hu))
theorem nV_int (ns : List Nat) : ns.map nV = (ns.map fun n : Nat => (n : Int)).map V.int := by rw [List.map_map]; rfl
theorem TAt.int {H : Hp} {t : Addr} {ns : List Nat} (h : TAt H t ns) : H t = some (.tup ((ns.map fun n : Nat => (n : Int)).map V.int)) := by rw [← nV_int]; exact h
/-- what sorted gives of rows -/
theorem srt_rows {H : Hp} {ts : List Addr} {rows : List (List Nat)} {bs : List V} (hp : Paired (TAt H) ts rows) (hb : bs.Perm (ts.map V.ref)) (hs : bs.Pairwise fun a b => iOrd.kle (κr H a) (κr H b)) :
    ∃ (zs : List Addr) (rows' : List (List Nat)), bs = zs.map V.ref ∧ Paired (TAt H) zs rows' ∧ rows'.Perm rows ∧ rows'.Pairwise rle := by
  obtain ⟨e, h⟩ := paired_rows hp
  obtain ⟨zs, pz, rfl⟩ := perm_lift hb rfl
  refine ⟨zs, zs.map (rowOf H), rfl, paired_of fun t ht => h t (pz.mem_iff.mp ht), by rw [e]; exact pz.map _, ?_⟩
  rw [List.pairwise_map] at hs
  rw [List.pairwise_map]
  exact hs
/-- what sorted by a key asks of rows -/
theorem ask_rows {H : Hp} {ts : List Addr} {rows : List (List Nat)} (hp : Paired (TAt H) ts rows) :
    (∀ a ∈ ts.map V.ref, ∃ (r : Addr) (ns : List Int), a = .ref r ∧ H r = some (.tup (ns.map V.int))) ∧ ∀ (r : Addr) (ns : List Int), V.ref r ∈ ts.map V.ref → H r = some (.tup (ns.map V.int)) → κr H (.ref r) = (ns.length : Int) :: ns := by
  obtain ⟨e, h⟩ := paired_rows hp
  refine ⟨fun a ha => ?_, fun r ns hr hn => ?_⟩
  · obtain ⟨t, ht, rfl⟩ := List.mem_map.mp ha
    exact ⟨t, _, rfl, (h t ht).int⟩
  · obtain ⟨t, ht, et⟩ := List.mem_map.mp hr
    cases et
    have := (h r ht).int
    rw [hn] at this
    have e2 := map_int_inj (HO.tup.inj (Option.some.inj this))
    show rk (rowOf H r) = _
    unfold rk
    rw [← e2]
    congr 1
    rw [e2, List.length_map]
theorem RowsAt.same {H H' : Hp} {l : Addr} {rows : List (List Nat)} (S : Same H H') (h : RowsAt H l rows) : RowsAt H' l rows := by
  obtain ⟨ts, h1, h2⟩ := h
  exact ⟨ts, S _ _ h1, paired_mono h2 fun x y z => S _ _ z⟩
abbrev nK (n : Nat) : Key := Sum.inl (n : Int)
def kvsOf (rs : List (List Nat)) : List (List Key × V) := rs.map fun r => (r.map nK, V.bl true)
theorem nK_inj : ∀ {a b : List Nat}, a.map nK = b.map nK → a = b
  | [], [], _ => rfl
  | [], _ :: _, h => by cases h
  | _ :: _, [], h => by cases h
  | x :: a, y :: b, h => by
    obtain ⟨h1, h2⟩ := List.cons.inj h
    have h1 : (x : Int) = (y : Int) := Sum.inl.inj h1
    rw [nK_inj h2, show x = y by omega]
theorem putK_old {rs : List (List Nat)} {r : List Nat} (h : r ∈ rs) : putK (kvsOf rs) (r.map nK) (V.bl true) = kvsOf rs := by
  unfold putK
  rw [if_pos]
  · unfold kvsOf
    rw [List.map_map]
    refine List.map_congr_left fun q _ => ?_
    show (if q.map nK = r.map nK then (q.map nK, V.bl true) else (q.map nK, V.bl true)) = _
    rw [ite_self]
  · rw [List.any_eq_true]
    exact ⟨(r.map nK, V.bl true), List.mem_map.mpr ⟨r, h, rfl⟩, by simp⟩
theorem putK_new {rs : List (List Nat)} {r : List Nat} (h : r ∉ rs) : putK (kvsOf rs) (r.map nK) (V.bl true) = kvsOf (rs ++ [r]) := by
  unfold putK
  rw [if_neg]
  · unfold kvsOf
    rw [List.map_append]
    rfl
  · rw [List.any_eq_true]
    rintro ⟨kv, hkv, e⟩
    obtain ⟨q, hq, rfl⟩ := List.mem_map.mp hkv
    have e := nK_inj (of_decide_eq_true e)
    exact h (e ▸ hq)
theorem nK_kV (r : List Nat) : (r.map nK).map kV = r.map nV := by rw [List.map_map]; rfl
theorem paired_keys {H : Hp} : ∀ {rs : List (List Nat)} {qs : List Addr}, Paired (fun (q : Addr) (kv : List Key × V) => H q = some (.tup (kv.1.map kV))) qs (kvsOf rs) → Paired (TAt H) qs rs
  | [], _, h => by cases h; exact .nil
  | r :: rs, _, h => by
    cases h with
    | cons a b => exact .cons (by show H _ = some (.tup (r.map nV)); rw [← nK_kV]; exact a) (paired_keys b)
end LN
namespace K3
open PySem L2 LN
abbrev sGath : Stmt := top 21
abbrev sInner : Stmt := top 22
def spGath : Sp := fun vs H Q _ => ∃ (a e u t : Addr) (ks : KS) (ns : List Nat), vs = [.ref a, .ref e, .ref u] ∧ KAt H a ks ∧ KOk ks ∧ H e = some (.tup []) ∧ H u = some (.tup [.ref t]) ∧ TAt H t ns ∧ TOk ks ns ∧
  ∀ (l : Addr) (rows : List (List Nat)) (H' : Hp), Same H H' → H l = none → RowsAt H' l rows → InnF ks ns rows → Q (.ref l) H'
def spInner : Sp := fun vs H Q _ => ∃ (a t : Addr) (ks : KS) (ns : List Nat), vs = [.ref a, .ref t] ∧ KAt H a ks ∧ KOk ks ∧ TAt H t ns ∧ TOk ks ns ∧ ∀ (l : Addr) (rows : List (List Nat)) (H' : Hp), Same H H' → H l = none → RowsAt H' l rows → InnF ks ns rows → Q (.ref l) H'
section
variable {P : Program} {w : World} {K : PySem.W.Frag} {mg : Str → Option Value} {base : Heap}
abbrev NG : List Str := ["signs", "known", "terms", "found", "term", "ends", "place"]
theorem scGa : FnScope NG ["signs", "known", "terms"] (defScope sGath) := ⟨rfl, rfl, rfl, by decide +kernel, rfl, by decide +kernel, by decide +kernel⟩
theorem ok_gath {f fE fK : Addr} {fd fdE fdK : FuncData} (F : Fun K "gathered" "gathered" sGath f fd) (T : Blt mg) (hL : mg "list" = none) (hS : mg "sorted" = none) (N : Known P w K mg base CX0 2 "ends_of" fE fdE ["signs", "term"] spEnds) (Y : Known P w K mg base CX0 2 "order_key" fK fdK ["term"] spKy) :
    FnOk P w K mg base CX0 5 f fd ["signs", "known", "terms"] spGath := by
  refine F.ok scGa (fun vs H Q E h => ?_) (fun cdv A outer s H vs Q E hr h => ?_)
  · obtain ⟨a, e, u, t, ks, ns, rfl, _⟩ := h
    rfl
  · obtain ⟨a, e, u, t, ks, ns, rfl, ha, hk, he0, hu0, ht, ok, q⟩ := h
    have hu := hu_of hr
    refine ⟨_, pss_cons (ps_setDc (i := 3) (own := [("term", 4)]) (g := gName 4) (tt := tYes) (tk := tVar 4) (tv := tC (.bl true)) (o0 := .dT []) (.inl rfl) hu (by rfl) scGa.nd rfl rfl (sw_trueD rfl rfl rfl (by decide +kernel)) (pi_tup (pv 1)) (blkOk_by (own := [("term", 4)]) (N := NG) (sc := defScope sGath) (by decide +kernel))
        (fun _ _ _ _ _ => pg_name (i := 4) scGa.nd rfl (Or.inl rfl)) (fun _ _ _ _ _ => pts_nil) (fun _ _ _ _ _ => pv 4) (fun _ _ _ _ _ => pe_bl))
      (pss_cons (ps_for PassesOwn.never rfl (pi_tup (pv 2)) (pg_name (i := 4) scGa.nd rfl (Or.inl rfl))
        (pss_cons (ps_set (i := 5) scGa.nd rfl (Or.inl rfl) (pe_call N.G (hr.mono (by decide)) (by rfl) N.m N.k N.b .nil pass0 (pa_cons (pv 0) (pa_cons (pv 4) pa_nil))))
        (pss_one (ps_for PassesOwn.never rfl (pi_range1 (by rfl) T.range (pa_cons (pe_callB call_len_seq (by rfl) T.len PySem.boot_len (pa_cons (pv 4) pa_nil)) pa_nil)) (pg_name (i := 6) scGa.nd rfl (Or.inl rfl))
          (pss_one (ps_dput hu (pv 3) (pe_slice sl_tupW (pv 4) (po_some (pv 6)) (po_some (pe_ix ix_list (pv 5) (pv 6) (fun _ _ => rfl)))) pe_bl rfl))))))
      (pss_one (ps_ret (pe_srtK Y.G (hr.mono (by decide)) Y.b (by rfl) hS (pa_cons (pe_callTy (call_listD rfl) (by rfl) hL (by decide +kernel) (pa_cons (pv 3) pa_nil)) pa_nil) (pk_cons (pe_glob (v := .ref fK) (by rfl) Y.m rfl) pk_nil))))), ?_⟩
    refine ⟨_, rfl, e, rfl, ⟨_, SqT.of he0⟩, fun D hD => ?_⟩
    have S0 : ∀ {H1 : Hp} {o : HO}, Same H H1 → Same H (upd H1 D o) := fun S => S.over hD
    refine ⟨fun i m H' => i = 0 ∧ m = 0 ∧ H' = upd H D (.dT []), ⟨0, rfl, rfl, rfl⟩, ?_⟩
    rintro i m H' ⟨rfl, rfl, rfl⟩
    refine .inl ⟨⟨_, SqT.of (S0 (Same.refl H) _ _ he0), Nat.le_refl _⟩, ?_⟩
    have h30 := ok.le
    refine ⟨_, rfl, u, rfl, ⟨_, SqT.of (S0 (Same.refl H) _ _ hu0)⟩, ?_⟩
    refine for_tup (K := K) (xs := [.ref t]) (fun i σ H2 => ∃ (rs : List (List Nat)) (o4 o5 o6 : Option V), Same H H2 ∧ H2 D = some (.dT (kvsOf rs)) ∧ rs.Nodup ∧ rs.length ≤ 30 ∧ (∀ r, r ∈ rs ↔ i = 1 ∧ ∃ j, j < ns.length ∧ r = subF ks ns j) ∧ σ = [some (.ref a), some (.ref e), some (.ref u), some (.ref D), o4, o5, o6])
      ⟨[], _, _, _, S0 (Same.refl H), upd_same, List.nodup_nil, by decide, fun r => ⟨(fun z => nomatch z), fun z => absurd z.1 (by decide)⟩, rfl⟩ (fun i σ H2 _ h => by obtain ⟨_, _, _, _, S2, _⟩ := h; exact SqT.of (S2 _ _ hu0)) ?_ ?_
    · rintro i x σ H2 hx ⟨rs, o4, o5, o6, S2, hd2, nd2, l2, m2, rfl⟩
      cases i with
      | succ i => simp at hx
      | zero =>
        cases hx
        have hrs : rs = [] := List.eq_nil_iff_forall_not_mem.mpr fun r hr => absurd ((m2 r).mp hr).1 (by decide)
        subst hrs
        refine ⟨_, rfl, _, rfl, a, t, ks, ns, rfl, ha.same S2, hk, ht.same S2, ok, fun le es H3 S3 hle he => ?_⟩
        have S03 := S2.trans S3
        refine ⟨_, rfl, t, _, rfl, .inr (SqT.of (S03 _ _ ht)), _, rfl, by rw [List.length_map]; omega, by rw [List.length_map]; omega, ?_⟩
        rw [List.length_map, show ((ns.length : Nat) : Int).toNat = ns.length by simp]
        refine for_range (fun j σ H4 => ∃ (rs : List (List Nat)) (o6 : Option V), Same H H4 ∧ H4 le = some (.lst (es.map nV)) ∧ H4 D = some (.dT (kvsOf rs)) ∧ rs.Nodup ∧ rs.length ≤ j ∧ (∀ r, r ∈ rs ↔ ∃ m, m < j ∧ r = subF ks ns m) ∧ σ = [some (.ref a), some (.ref e), some (.ref u), some (.ref D), some (.ref t), some (.ref le), o6])
          ⟨[], _, S03, hle, S3 _ _ hd2, List.nodup_nil, Nat.le_refl _, fun r => ⟨(fun z => nomatch z), fun ⟨m, hm, _⟩ => absurd hm (by omega)⟩, rfl⟩ ?_ ?_
        · rintro j σ H4 hj ⟨rs, o6, S4, hle4, hd4, nd4, l4, m4, rfl⟩
          have E1 := he.2 j hj
          have El := E1.le
          rw [arL_len] at El
          rw [show (0 : Int) + (j : Nat) = ((j : Nat) : Int) by omega]
          refine ⟨_, rfl, _, rfl, _, rfl, _, rfl, _, rfl, _, rfl, le, _, _, _, rfl, rfl, SqL.of hle4, atI_nat (getD_map (by rw [he.1]; exact hj)), _, rfl, t, _, rfl, S4 _ _ ht, fun p H5 S5 hp5 => ?_⟩
          rw [cut_mid (Nat.le_of_lt E1.lt) El] at hp5
          have hp6 : TAt H5 p (subF ks ns j) := by
            unfold subF
            rw [E1.endF]
            exact hp5
          have hp7 : H5 p = some (.tup (((subF ks ns j).map nK).map kV)) := by rw [nK_kV]; exact hp6
          have hd5 := S5 _ _ hd4
          refine ⟨D, _, rfl, DPut.t hd5 hp7 (by unfold kvsOf; rw [List.length_map]; exact small1000 (by omega)), ?_⟩
          have hDl : le ≠ D := ne_of (S5 _ _ hle4) hd5 (by intro z; cases z)
          by_cases c : subF ks ns j ∈ rs
          · rw [putK_old c]
            refine ⟨rs, _, S0 (S4.trans S5), by rw [upd_ne hDl]; exact S5 _ _ hle4, upd_same, nd4, by omega, fun r => ?_, rfl⟩
            rw [m4]
            constructor
            · rintro ⟨m, hm, e⟩
              exact ⟨m, by omega, e⟩
            · rintro ⟨m, hm, e⟩
              by_cases z : m = j
              · subst z
                rw [e]
                exact (m4 _).mp c
              · exact ⟨m, by omega, e⟩
          · rw [putK_new c]
            refine ⟨rs ++ [subF ks ns j], _, S0 (S4.trans S5), by rw [upd_ne hDl]; exact S5 _ _ hle4, upd_same, ?_, by rw [List.length_append, List.length_singleton]; omega, fun r => ?_, rfl⟩
            · rw [List.nodup_append]
              exact ⟨nd4, by simp, fun x hx y hy => by rw [List.mem_singleton.mp hy]; exact fun z => c (z ▸ hx)⟩
            · rw [List.mem_append, m4, List.mem_singleton]
              constructor
              · rintro (⟨m, hm, e⟩ | e)
                · exact ⟨m, by omega, e⟩
                · exact ⟨j, by omega, e⟩
              · rintro ⟨m, hm, e⟩
                by_cases z : m = j
                · subst z; exact .inr e
                · exact .inl ⟨m, by omega, e⟩
        · rintro σ H4 ⟨rs, o6, S4, hle4, hd4, nd4, l4, m4, rfl⟩
          exact ⟨rs, _, _, _, S4, hd4, nd4, by omega, fun r => (m4 r).trans ⟨fun z => ⟨rfl, z⟩, fun z => z.2⟩, rfl⟩
    · rintro σ H2 ⟨rs, o4, o5, o6, S2, hd2, nd2, l2, m2, rfl⟩
      refine ⟨_, rfl, D, _, rfl, hd2, fun l qs hl hq => ?_⟩
      have hp := paired_keys hq
      have S3 : Same H2 (upd H2 l (.lst (qs.map V.ref))) := same_new hl
      have hp3 : Paired (TAt (upd H2 l (.lst (qs.map V.ref)))) qs rs := paired_mono hp fun x y z => S3 _ _ z
      obtain ⟨k1, k2⟩ := ask_rows hp3
      have hlq : qs.length = rs.length := Paired.length hp
      refine ⟨_, _, rfl, rfl, l, _, κr (upd H2 l (.lst (qs.map V.ref))), rfl, rfl, SqL.of upd_same, by rw [List.length_map]; omega, k1, k2, fun bs p H4 hb hs hp4 S4 hat => ?_⟩
      obtain ⟨zs, rows, rfl, hz, hpm, hup⟩ := srt_rows hp3 hb hs
      have S24 := (S2.trans S3).trans S4
      refine q p rows H4 S24 (free_of (S2.trans S3) hp4) ⟨zs, hat, paired_mono hz fun x y z => S4 _ _ z⟩ ⟨hup, hpm.nodup_iff.mpr nd2, fun r => ?_⟩
      rw [hpm.mem_iff, m2]
      exact ⟨fun z => z.2, fun z => ⟨rfl, z⟩⟩
theorem scIn : FnScope ["signs", "term"] ["signs", "term"] (defScope sInner) := ⟨rfl, rfl, rfl, by decide +kernel, rfl, by decide +kernel, by decide +kernel⟩
theorem ok_inner {f fS fT fG : Addr} {fd fdS fdT fdG : FuncData} {d0 : Value} (F : Fun K "inner" "inner" sInner f fd) (S : Known P w K mg base CX0 5 "check_signs" fS fdS ["signs"] spCkS) (T : KnownT P w K mg base 4 "check_term" fT fdT ["signs", "term", "at"] spCkT d0)
    (L : Known P w K mg base CX0 5 "gathered" fG fdG ["signs", "known", "terms"] spGath) : FnOk P w K mg base CX0 6 f fd ["signs", "term"] spInner := by
  refine F.ok scIn (fun vs H Q E h => ?_) (fun cdv A outer s H vs Q E hr h => ?_)
  · obtain ⟨a, t, ks, ns, rfl, _⟩ := h
    rfl
  · obtain ⟨a, t, ks, ns, rfl, ha, hk, ht, ok, q⟩ := h
    refine ⟨_, pss_cons (ps_expr (pe_call S.G hr (by rfl) S.m S.k S.b .nil pass0 (pa_cons (pv 0) pa_nil)))
      (pss_cons (ps_expr (pe_call T.G (hr.mono (by decide)) (by rfl) T.m T.k T.b0 T.v0 pass0 (pa_cons (pv 0) (pa_cons (pv 1) pa_nil))))
      (pss_one (ps_ret (pe_call L.G hr (by rfl) L.m L.k L.b .nil pass0 (pa_cons (pv 0) (pa_cons (pe_tup pa_nil) (pa_cons (pe_tup (pa_cons (pv 1) pa_nil)) pa_nil))))))), ?_⟩
    refine ⟨_, rfl, a, ks, rfl, ha, hk, fun H1 S1 => ?_⟩
    refine ⟨_, rfl, _, rfl, a, t, ks, ns, 0, rfl, ha.same S1, hk, ht.same S1, ok, ?_⟩
    refine ⟨_, rfl, by show 0 ≤ sizeLine; exact Nat.zero_le _, fun e he => ⟨_, rfl, by show 1 ≤ sizeLine; decide, fun u hu => ?_⟩⟩
    have S2 : Same H1 (upd H1 e (.tup [])) := same_new he
    have S3 := S2.trans (same_new (o := .tup [.ref t]) hu)
    have S03 := S1.trans S3
    refine ⟨a, e, u, t, ks, ns, rfl, ha.same S03, hk, ?_, upd_same, ht.same S03, ok, fun l rows H4 S4 hl hr4 hin => q l rows H4 (S03.trans S4) (free_of S03 hl) hr4 hin⟩
    rw [upd_ne (ne_of_none (o := .tup []) upd_same hu), upd_same]
end
end K3


set_option Elab.async false
set_option linter.all false
set_option maxRecDepth 100000
set_option maxHeartbeats 800000
namespace K3
open PySem L2 LN
abbrev sDepth : Stmt := top 23
abbrev sOrd : Stmt := top 24
def spDepth : Sp := fun vs H Q _ => ∃ (a t : Addr) (ks : KS) (ns : List Nat), vs = [.ref a, .ref t] ∧ KAt H a ks ∧ KOk ks ∧ TAt H t ns ∧ TOk ks ns ∧ ∀ H' : Hp, Same H H' → Q (nV (dpF ks ns)) H'
def spOrd : Sp := fun vs H Q _ => ∃ (a l : Addr) (ks : KS) (rows : List (List Nat)), vs = [.ref a, .ref l] ∧ KAt H a ks ∧ KOk ks ∧ RowsAt H l rows ∧ (∀ r ∈ rows, TOk ks r) ∧ rows.length < 64 ∧
  ∀ (p : Addr) (rows' : List (List Nat)) (H' : Hp), Same H H' → H p = none → RowsAt H' p rows' → rows'.Perm rows → rows'.Pairwise rle → Q (.ref p) H'
section
variable {P : Program} {w : World} {K : PySem.W.Frag} {mg : Str → Option Value} {base : Heap}
theorem flat1 (n : Nat) : (List.replicate n [V.int 1]).flatten = (List.replicate n 1).map nV := by
  induction n with
  | zero => rfl
  | succ n ih => rw [List.replicate_succ, List.flatten_cons, ih, List.replicate_succ]; rfl
theorem getD_set_eq {ds : List Nat} {i v : Nat} (h : i < ds.length) : (ds.set i v).getD i 0 = v := by rw [List.getD_eq_getElem?_getD, List.getElem?_set_self h]; rfl
theorem getD_set_ne {ds : List Nat} {i j v : Nat} (h : i ≠ j) : (ds.set i v).getD j 0 = ds.getD j 0 := by rw [List.getD_eq_getElem?_getD, List.getElem?_set_ne h, ← List.getD_eq_getElem?_getD]
theorem scDe : FnScope ["signs", "term", "ends", "depths", "place", "begin"] ["signs", "term"] (defScope sDepth) := ⟨rfl, rfl, rfl, by decide +kernel, rfl, by decide +kernel, by decide +kernel⟩
theorem ok_depth {f fS fT fE fP : Addr} {fd fdS fdT fdE fdP : FuncData} {d0 : Value} (F : Fun K "depth" "depth" sDepth f fd) (B : Blt mg) (S : Known P w K mg base CX0 5 "check_signs" fS fdS ["signs"] spCkS) (T : KnownT P w K mg base 4 "check_term" fT fdT ["signs", "term", "at"] spCkT d0)
    (N : Known P w K mg base CX0 2 "ends_of" fE fdE ["signs", "term"] spEnds) (L : Known P w K mg base CX0 2 "part_places" fP fdP ["signs", "term", "ends", "place"] spPP) : FnOk P w K mg base CX0 6 f fd ["signs", "term"] spDepth := by
  refine F.ok scDe (fun vs H Q E h => ?_) (fun cdv A outer s H vs Q E hr h => ?_)
  · obtain ⟨a, t, ks, ns, rfl, _⟩ := h
    rfl
  · obtain ⟨a, t, ks, ns, rfl, ha, hk, ht, ok, q⟩ := h
    refine ⟨_, pss_cons (ps_expr (pe_call S.G hr (by rfl) S.m S.k S.b .nil pass0 (pa_cons (pv 0) pa_nil)))
      (pss_cons (ps_expr (pe_call T.G (hr.mono (by decide)) (by rfl) T.m T.k T.b0 T.v0 pass0 (pa_cons (pv 0) (pa_cons (pv 1) pa_nil))))
      (pss_cons (ps_set (i := 2) scDe.nd rfl (Or.inl rfl) (pe_call N.G (hr.mono (by decide)) (by rfl) N.m N.k N.b .nil pass0 (pa_cons (pv 0) (pa_cons (pv 1) pa_nil))))
      (pss_cons (ps_set (i := 3) scDe.nd rfl (Or.inl rfl) (pe_op op_rep (pe_lst (pa_cons pe_int pa_nil)) (pe_callB call_len_seq (by rfl) B.len PySem.boot_len (pa_cons (pv 1) pa_nil))))
      (pss_cons (ps_for PassesOwn.never rfl (pi_range3 (by rfl) B.range (pa_cons (pe_op op_sub (pe_callB call_len_seq (by rfl) B.len PySem.boot_len (pa_cons (pv 1) pa_nil)) pe_int) (pa_cons (pe_un un_neg pe_int) (pa_cons (pe_un un_neg pe_int) pa_nil)))) (pg_name (i := 4) scDe.nd rfl (Or.inl rfl))
        (pss_one (ps_for PassesOwn.never rfl (pi_list (pe_call L.G (hr.mono (by decide)) (by rfl) L.m L.k L.b .nil pass0 (pa_cons (pv 0) (pa_cons (pv 1) (pa_cons (pv 2) (pa_cons (pv 4) pa_nil)))))) (pg_name (i := 5) scDe.nd rfl (Or.inl rfl))
          (pss_one (ps_asg (pe_callB (call_max2 rfl) (by rfl) B.mx (by decide +kernel) (pa_cons (pe_ix ix_list (pv 3) (pv 4) (fun _ _ => rfl)) (pa_cons (pe_op op_add (pe_ix ix_list (pv 3) (pv 5) (fun _ _ => rfl)) pe_int) pa_nil))) (pg_sub (pv 3) (pv 4) set_list))))))
      (pss_one (ps_ret (pe_ix ix_list (pv 3) pe_int (fun _ _ => rfl)))))))), ?_⟩
    have h1 := ok.pos
    have h30 := ok.le
    refine ⟨_, rfl, a, ks, rfl, ha, hk, fun H1 S1 => ?_⟩
    refine ⟨_, rfl, _, rfl, a, t, ks, ns, 0, rfl, ha.same S1, hk, ht.same S1, ok, ?_⟩
    refine ⟨_, rfl, _, rfl, a, t, ks, ns, rfl, ha.same S1, hk, ht.same S1, ok, fun le es H2 S2 hle he => ?_⟩
    refine ⟨by show 1 ≤ sizeLine; decide, fun l0 hl0 => ?_⟩
    have S02 := S1.trans S2
    have S3 : Same H2 (upd H2 l0 (.lst [.int 1])) := same_new hl0
    have S03 := S02.trans S3
    refine ⟨_, rfl, t, _, rfl, .inr (SqT.of (S03 _ _ ht)), l0, _, _, rfl, rfl, upd_same, ?_⟩
    rw [List.length_map]
    refine ⟨by omega, by omega, ?_, fun p hp => ?_⟩
    · show 1 * ns.length ≤ sizeLine
      have := small1000 (n := 1 * ns.length) (by omega)
      omega
    rw [show ((ns.length : Nat) : Int).toNat = ns.length by simp, flat1]
    generalize upd H2 l0 (.lst [.int 1]) = H3 at S3 S03 hp ⊢
    have hp0 : H p = none := free_of S03 hp
    have hle3 := S3 _ _ hle
    have hlp : le ≠ p := ne_of_none hle3 hp
    have S04 : ∀ o, Same H (upd H3 p o) := fun o => S03.trans (same_new hp)
    refine ⟨_, rfl, t, _, rfl, .inr (SqT.of (S04 _ _ _ ht)), _, _, rfl, rfl, _, rfl, _, rfl, _, _, _, _, rfl, RgC.neg ?_ ?_ (by decide) (by decide), ?_⟩
    · rw [List.length_map]; omega
    · rw [List.length_map]; omega
    rw [List.length_map]
    have en : ((ns.length : Int) - 1 - -1).toNat = ns.length := by omega
    rw [show ((ns.length : Int) - 1 - (-1 : Int)).toNat = ns.length from en]
    refine for_rangeC (fun i σ H4 => ∃ (ds : List Nat) (o4 o5 : Option V), Same H H4 ∧ H4 le = some (.lst (es.map nV)) ∧ H4 p = some (.lst (ds.map nV)) ∧ ds.length = ns.length ∧ (∀ j, ns.length ≤ j + i → j < ns.length → ds.getD j 0 = dpF ks (subF ks ns j)) ∧ (∀ j, j + i < ns.length → ds.getD j 0 = 1) ∧ σ = [some (.ref a), some (.ref t), some (.ref le), some (.ref p), o4, o5])
      ⟨List.replicate ns.length 1, _, _, S04 _, by rw [upd_ne hlp]; exact hle3, upd_same, by simp, (fun j z1 z2 => by omega), (fun j z => by rw [List.getD_eq_getElem?_getD, List.getElem?_replicate, if_pos (by omega)]; rfl), rfl⟩ ?_ ?_
    · rintro i σ H4 hi ⟨ds, o4, o5, S4, hle4, hp4, hds, hd1, hd2, rfl⟩
      have epl : ((ns.length : Int) - 1 + (i : Nat) * (-1 : Int)) = ((ns.length - 1 - i : Nat) : Int) := by omega
      rw [epl]
      generalize hpl : ns.length - 1 - i = pl
      have hpl1 : pl < ns.length := by omega
      refine ⟨_, rfl, _, rfl, _, rfl, _, rfl, a, t, le, ks, ns, es, pl, hpl1, rfl, ha.same S4, hk, ht.same S4, ok, hle4, he, fun lb H5 S5 hlb0 hlb => ?_⟩
      refine ⟨lb, rfl, ⟨_, SqL.of hlb⟩, ?_⟩
      have h3 := arN_le hk ns[pl]
      have hpb : p ≠ lb := ne_of_none hp4 hlb0
      have hparts := parts_sub ok hpl1
      refine for_list (K := K) (xs := (begF (arL ks ns) (arN ks ns[pl]) (pl + 1)).map nV) (fun j σ H6 => ∃ (ds' : List Nat) (o5 : Option V), Same H H6 ∧ H6 le = some (.lst (es.map nV)) ∧ H6 lb = some (.lst ((begF (arL ks ns) (arN ks ns[pl]) (pl + 1)).map nV)) ∧ H6 p = some (.lst (ds'.map nV)) ∧ ds'.length = ns.length ∧
          (∀ m, m ≠ pl → ds'.getD m 0 = ds.getD m 0) ∧ ds'.getD pl 0 = 1 + mx (dpF ks) (((begF (arL ks ns) (arN ks ns[pl]) (pl + 1)).take j).map (subF ks ns)) ∧ σ = [some (.ref a), some (.ref t), some (.ref le), some (.ref p), some (nV pl), o5])
        ⟨ds, _, S4.trans S5, S5 _ _ hle4, hlb, S5 _ _ hp4, hds, (fun _ _ => rfl), (by rw [hd2 pl (by omega)]; rfl), rfl⟩ (fun j σ H6 _ h => by obtain ⟨_, _, _, _, z, _⟩ := h; exact SqL.of z) ?_ ?_
      · rintro j x σ H6 hx ⟨ds', o5, S6, hle6, hlb6, hp6, hds6, hm6, hv6, rfl⟩
        rw [List.getElem?_map] at hx
        obtain ⟨b, hb, rfl⟩ := Option.map_eq_some_iff.mp hx
        have hb' := hb
        unfold begF at hb'
        rw [List.getElem?_map] at hb'
        obtain ⟨j', hj', rfl⟩ := Option.map_eq_some_iff.mp hb'
        obtain ⟨hil, hj'⟩ := List.getElem?_eq_some_iff.mp hj'
        rw [List.getElem_range] at hj'
        subst hj'
        rw [List.length_range] at hil
        obtain ⟨_, hb2, _, h4⟩ := nthB_ok ok hpl1 j (by omega)
        have hbl := h4 hil
        have hbv : ds'.getD (nthB (arL ks ns) (pl + 1) j) 0 = dpF ks (subF ks ns (nthB (arL ks ns) (pl + 1) j)) := by
          rw [hm6 _ (by omega)]
          exact hd1 _ (by omega) hbl
        refine ⟨_, rfl, _, rfl, p, _, _, _, rfl, rfl, SqL.of hp6, atI_nat (getD_map (by omega)), _, rfl, _, rfl, p, _, _, _, rfl, rfl, SqL.of hp6, atI_nat (getD_map (by omega)), _, _, rfl, rfl, _, _, rfl, ?_⟩
        refine ⟨_, rfl, _, rfl, p, _, _, pl, rfl, rfl, hp6, by rw [List.length_map]; exact ixN_nat (by omega), ?_⟩
        generalize hz : max (ds'.getD pl 0) (ds'.getD (nthB (arL ks ns) (pl + 1) j) 0 + 1) = z
        have ez : (if ((ds'.getD (nthB (arL ks ns) (pl + 1) j) 0 : Nat) : Int) + 1 > ((ds'.getD pl 0 : Nat) : Int) then ((ds'.getD (nthB (arL ks ns) (pl + 1) j) 0 : Nat) : Int) + 1 else ((ds'.getD pl 0 : Nat) : Int)) = (z : Int) := by
          split <;> omega
        rw [ez]
        have hlp6 : le ≠ p := hlp
        refine ⟨ds'.set pl z, _, S6.over hp0, by rw [upd_ne hlp]; exact hle6, by rw [upd_ne hpb.symm]; exact hlb6, by rw [upd_same, List.map_set], by rw [List.length_set]; exact hds6, fun m hm => ?_, ?_, rfl⟩
        · rw [getD_set_ne hm.symm]; exact hm6 m hm
        · rw [getD_set_eq (by omega), ← hz, hv6, hbv, List.take_add_one, hb, List.map_append, mx_app]
          show max _ _ = 1 + max _ (max (dpF ks (subF ks ns (nthB (arL ks ns) (pl + 1) j))) 0)
          omega
      · rintro σ H6 ⟨ds', o5, S6, hle6, hlb6, hp6, hds6, hm6, hv6, rfl⟩
        rw [List.length_map, begF_len, List.take_of_length_le (by rw [begF_len]; exact Nat.le_refl _), ← hparts, ← dp_eq (sub_ok ok hpl1)] at hv6
        refine ⟨ds', _, _, S6, hle6, hp6, hds6, fun j z1 z2 => ?_, fun j z => ?_, rfl⟩
        · by_cases e : j = pl
          · rw [e]; exact hv6
          · rw [hm6 j e]; exact hd1 j (by omega) z2
        · rw [hm6 j (by omega)]; exact hd2 j (by omega)
    · rintro σ H4 ⟨ds, o4, o5, S4, hle4, hp4, hds, hd1, hd2, rfl⟩
      refine ⟨_, rfl, p, _, _, nV (ds.getD 0 0), rfl, rfl, SqL.of hp4, atI_nat (j := 0) (getD_map (by omega)), ?_⟩
      rw [hd1 0 (by omega) h1, sub_zero ok]
      exact q H4 S4
theorem scOr : FnScope ["signs", "terms", "at", "term"] ["signs", "terms"] (defScope sOrd) := ⟨rfl, rfl, rfl, by decide +kernel, rfl, by decide +kernel, by decide +kernel⟩
theorem ok_ord {f fS fT fK : Addr} {fd fdS fdT fdK : FuncData} {d0 : Value} (F : Fun K "in_order" "in_order" sOrd f fd) (B : Blt mg) (hL : mg "list" = none) (hE : mg "enumerate" = none) (hS : mg "sorted" = none) (S : Known P w K mg base CX0 5 "check_signs" fS fdS ["signs"] spCkS)
    (T : KnownT P w K mg base 4 "check_term" fT fdT ["signs", "term", "at"] spCkT d0) (Y : Known P w K mg base CX0 2 "order_key" fK fdK ["term"] spKy) : FnOk P w K mg base CX0 6 f fd ["signs", "terms"] spOrd := by
  refine F.ok scOr (fun vs H Q E h => ?_) (fun cdv A outer s H vs Q E hr h => ?_)
  · obtain ⟨a, l, ks, rows, rfl, _⟩ := h
    rfl
  · obtain ⟨a, l, ks, rows, rfl, ha, hk, ⟨ts, hl, hts⟩, hok, h64, q⟩ := h
    refine ⟨_, pss_cons (ps_expr (pe_call S.G hr (by rfl) S.m S.k S.b .nil pass0 (pa_cons (pv 0) pa_nil)))
      (pss_cons (ps_if (pt_not (pt_val (pe_isiT (n := "list") (pv 1) (by rfl) B.isi (by rfl) hL (by decide +kernel)))) (pss_one ps_never) pss_nil)
      (pss_cons (ps_for PassesOwn.never rfl (pi_enum (by rfl) hE (pa_cons (pv 1) pa_nil)) (pg_tup (by rfl) (pgs_cons (pg_name (i := 2) scOr.nd rfl (Or.inl rfl)) (pgs_cons (pg_name (i := 3) scOr.nd rfl (Or.inl rfl)) pgs_nil)))
        (pss_one (ps_expr (pe_call T.G (hr.mono (by decide)) (by rfl) T.m T.k T.b .nil pass0 (pa_cons (pv 0) (pa_cons (pv 3) (pa_cons (pv 2) pa_nil)))))))
      (pss_one (ps_ret (pe_srtK Y.G (hr.mono (by decide)) Y.b (by rfl) hS (pa_cons (pv 1) pa_nil) (pk_cons (pe_glob (v := .ref fK) (by rfl) Y.m rfl) pk_nil)))))), ?_⟩
    refine ⟨_, rfl, a, ks, rfl, ha, hk, fun H1 S1 => ?_⟩
    have kl : PySem.W.kitOne K (.type "list") (.type "list") = some true := by kernel_rfl
    refine ⟨_, rfl, _, _, _, _, _, rfl, .old (.lst (S1 _ _ hl)), rfl, kl, _, rfl, iteF ?_⟩
    refine ⟨_, rfl, l, _, rfl, SqL.of (S1 _ _ hl), ?_⟩
    have hlen : ts.length = rows.length := Paired.length hts
    refine for_enum (K := K) (xs := ts.map V.ref) (fun i σ H2 => Same H H2 ∧ ∃ o2 o3 : Option V, σ = [some (.ref a), some (.ref l), o2, o3]) ⟨S1, _, _, rfl⟩ (fun i σ H2 _ h => SqL.of (h.1 _ _ hl)) ?_ ?_
    · rintro i x T' σ H2 hx hT ⟨S2, o2, o3, rfl⟩
      have S3 : Same H (upd H2 T' (.tup [.int (i : Nat), x])) := S2.trans (same_new hT)
      rw [List.getElem?_map] at hx
      obtain ⟨t, ht, rfl⟩ := Option.map_eq_some_iff.mp hx
      obtain ⟨r, hr1, hr2⟩ := paired_at i hts ht
      refine ⟨T', _, rfl, SqT.of upd_same, rfl, _, _, rfl, _, _, rfl, rfl, ?_⟩
      exact ⟨_, rfl, _, rfl, _, rfl, a, t, ks, r, _, rfl, ha.same S3, hk, TAt.same S3 hr2, hok r (List.mem_of_getElem? hr1), S3, _, _, rfl⟩
    · rintro σ H2 ⟨S2, o2, o3, rfl⟩
      have hp2 : Paired (TAt H2) ts rows := paired_mono hts fun x y z => S2 _ _ z
      obtain ⟨k1, k2⟩ := ask_rows hp2
      refine ⟨_, rfl, _, _, rfl, rfl, l, _, κr H2, rfl, rfl, SqL.of (S2 _ _ hl), by rw [List.length_map]; omega, k1, k2, fun bs p H4 hb hs hp4 S4 hat => ?_⟩
      obtain ⟨zs, rows', rfl, hz, hpm, hup⟩ := srt_rows hp2 hb hs
      exact q p rows' H4 (S2.trans S4) (free_of S2 hp4) ⟨zs, hat, paired_mono hz fun x y z => S4 _ _ z⟩ hpm hup
end
end K3


set_option Elab.async false
set_option linter.all false
set_option maxRecDepth 100000
set_option maxHeartbeats 800000
namespace K3
open PySem L2 LN
abbrev sMix : Stmt := top 29
abbrev sBel : Stmt := top 34
abbrev sOrL : Stmt := top 35
abbrev sInL : Stmt := top 36
abbrev rLenS (K : PySem.W.Frag) : List V → Hp → VK → Prop := fun xs H Q => ∃ p ys, xs = [.ref p] ∧ (SqL K H p ys ∨ SqT K H p ys) ∧ Q (.int ys.length) H
def spMix : Sp := fun vs H Q _ => ∃ (p l : Addr) (ts : List Addr), vs = [.ref p, .ref l] ∧ PotAt H p ∧ H l = some (.lst (ts.map V.ref)) ∧ ts.length ≤ 30 ∧
  ∀ (l' : Addr) (ts' : List Addr) (H' : Hp), Sam p H H' → PotAt H' p → H l' = none → H' l' = some (.lst (ts'.map V.ref)) → (∀ t ∈ ts', t ∈ ts) → ts'.length = ts.length → Q (.ref l') H'
def spOrL : Sp := fun vs H Q _ => ∃ (l : Addr) (rows : List (List Nat)), vs = [.ref l] ∧ RowsAt H l rows ∧ rows.length < 64 ∧ ∀ (p : Addr) (rows' : List (List Nat)) (H' : Hp), Same H H' → H p = none → RowsAt H' p rows' → rows'.Perm rows → rows'.Pairwise rle → Q (.ref p) H'
section
variable {P : Program} {w : World} {K : PySem.W.Frag} {mg : Str → Option Value} {base : Heap}
theorem seqIx {n j : Nat} (h : j < n) : seqIndex? (j : Int) n = some j := (ixN_seq (ixN_nat h)).1
abbrev NMi : List Str := ["_law_pot_here", "_law_some", "_law_left", "_law_one"]
theorem scMi : FnScope NMi ["_law_pot_here", "_law_some"] (defScope sMix) := ⟨rfl, rfl, rfl, by decide +kernel, rfl, by decide +kernel, by decide +kernel⟩
theorem ok_mix {f fT : Addr} {fd fdT : FuncData} (F : Fun K "_law_mixed" "_law_mixed" sMix f fd) (B : Blt mg) (hL : mg "list" = none) (T : Known P w K mg base CX0 2 "_law_take" fT fdT ["_law_pot_here", "_law_far"] spTake) : FnOk P w K mg base CX0 3 f fd ["_law_pot_here", "_law_some"] spMix := by
  refine F.ok scMi (fun vs H Q E h => ?_) (fun cdv A outer s H vs Q E hr h => ?_)
  · obtain ⟨p, l, ts, rfl, _⟩ := h
    rfl
  · obtain ⟨p, l, ts, rfl, hp, hl, hlen, q⟩ := h
    refine ⟨_, pss_cons (ps_set (i := 2) scMi.nd rfl (Or.inr rfl) (pe_callTy call_list_of (by rfl) hL (by decide +kernel) (pa_cons (pv 1) pa_nil)))
      (pss_one (ps_ret (pe_lc (own := [("_law_one", 3)]) (g := gName 3) (te := tBM K "list" rPopAt (tVar 2) (tCons (tCall spTake [] E0 (tCons (tVar 0) (tCons (tCB (rLenS K) (tCons (tVar 2) tNil)) tNil))) tNil)) (by rfl) scMi.nd (pi_list (pv 1)) (blkOk_by (own := [("_law_one", 3)]) (N := NMi) (sc := defScope sMix) (by decide +kernel))
        (fun _ _ _ _ _ => pg_name (i := 3) scMi.nd rfl (Or.inl rfl)) (fun _ _ _ _ _ => pts_nil)
        (fun _ _ _ _ _ => pe_bm PySem.F.plainAttrs_list PySem.F.slot_list_pop PySem.F.type_list_pop mt_popAt (pv 2) (pa_cons (pe_call T.G hr (by rfl) T.m T.k T.b .nil pass0 (pa_cons (pv 0) (pa_cons (pe_callB call_len_seq (by rfl) B.len PySem.boot_len (pa_cons (pv 2) pa_nil)) pa_nil))) pa_nil))))), ?_⟩
    obtain ⟨n0, hp0⟩ := id hp
    have hpl : l ≠ p := by
      intro z
      rw [z, hp0] at hl
      have := HO.lst.inj (Option.some.inj hl)
      cases ts with
      | nil => cases this
      | cons t ts => cases this
    refine ⟨_, rfl, l, _, rfl, .inl (SqL.of hl), fun k hk => ?_⟩
    have hpk : p ≠ k := ne_of_none hp0 hk
    have hlk : l ≠ k := ne_of_none hl hk
    refine ⟨_, rfl, l, rfl, ⟨_, SqL.of (by rw [upd_ne hlk]; exact hl)⟩, fun D hD => ?_⟩
    have hDk : k ≠ D := ne_of_none (o := .lst (ts.map V.ref)) upd_same hD
    have hD0 : H D = none := by rw [upd_ne hDk.symm] at hD; exact hD
    have hpD : p ≠ D := ne_of_none hp0 hD0
    refine lc_list (xs := ts.map V.ref) (fun i H3 => Sam p H H3 ∧ PotAt H3 p ∧ H3 l = some (.lst (ts.map V.ref)) ∧ ∃ (lf ot : List Addr), H3 k = some (.lst (lf.map V.ref)) ∧ H3 D = some (.lst (ot.map V.ref)) ∧ lf.length + i = ts.length ∧ ot.length = i ∧ (∀ t ∈ lf, t ∈ ts) ∧ ∀ t ∈ ot, t ∈ ts)
      ⟨((Sam.refl).over hk).over hD0, (hp.over hk).over hD, by rw [upd_ne (ne_of_none hl hD0), upd_ne hlk]; exact hl, ts, [], by rw [upd_ne hDk, upd_same], upd_same, rfl, rfl, (fun t z => z), (fun t z => nomatch z)⟩ (fun i H3 _ h => SqL.of h.2.2.1) ?_ ?_
    · rintro i x H3 hx ⟨S3, ⟨n3, hp3⟩, hl3, lf, ot, hk3, hD3, e1, e2, m1, m2⟩
      have hi : i < ts.length := by
        have := (List.getElem?_eq_some_iff.mp hx).1
        rw [List.length_map] at this
        exact this
      obtain ⟨j, hj, ej⟩ := mod_nat (n := n3) (m := lf.length) (by omega)
      refine ⟨rfl, _, rfl, .inl ⟨rfl, _, SqL.of hk3⟩, _, rfl, _, rfl, k, _, rfl, .inl (SqL.of hk3), p, n3, _, rfl, hp3, ?_, ?_, ?_⟩
      · rw [List.length_map]; omega
      · rw [List.length_map]
        have e : ((lf.length : Nat) : Int).natAbs = lf.length := by omega
        rw [e]
        exact Nat.lt_of_le_of_lt (Nat.log2_le_self _) (by omega)
      rw [List.length_map, ej]
      have hkp : k ≠ p := hpk.symm
      have hj2 : (lf.map V.ref)[j]? = some (V.ref lf[j]) := by rw [List.getElem?_map, List.getElem?_eq_getElem hj]; rfl
      refine ⟨k, lf.map V.ref, _, j, _, rfl, rfl, by rw [upd_ne hkp]; exact hk3, by omega, by omega, by rw [List.length_map]; exact seqIx hj, hj2, ?_⟩
      refine ⟨ot.map V.ref, ?_, by rw [List.length_map]; exact small1000 (by omega), ?_, ?_, ?_, lf.eraseIdx j, ot ++ [lf[j]], ?_, ?_, ?_, ?_, ?_, ?_⟩
      · rw [upd_ne hDk.symm, upd_ne hpD.symm]; exact hD3
      · exact ((S3.trans Sam.upd).over hk).over hD0
      · exact PotAt.upd (PotAt.upd ⟨_, upd_same⟩ hpk) hpD
      · rw [upd_ne (ne_of_none hl hD0), upd_ne hlk, upd_ne hpl]; exact hl3
      · rw [upd_ne hDk, upd_same, List.eraseIdx_eq_take_drop_succ, List.eraseIdx_eq_take_drop_succ, List.map_append, List.map_take, List.map_drop]
      · rw [upd_same, List.map_append]; rfl
      · rw [List.length_eraseIdx_of_lt hj]; omega
      · rw [List.length_append, List.length_singleton]; omega
      · exact fun t ht => m1 t (List.mem_of_mem_eraseIdx ht)
      · intro t ht
        rcases List.mem_append.mp ht with z | z
        · exact m2 t z
        · rw [List.mem_singleton.mp z]; exact m1 _ (List.getElem_mem hj)
    · rintro H3 ⟨S3, hp3, hl3, lf, ot, hk3, hD3, e1, e2, m1, m2⟩
      rw [List.length_map] at e1 e2
      exact q D ot H3 S3 hp3 hD0 hD3 m2 e2
theorem scBe : FnScope ["_law_kinds_here", "_law_row", "_law_found", "_law_start", "_law_end_here"] ["_law_kinds_here", "_law_row"] (defScope sBel) := ⟨rfl, rfl, rfl, by decide +kernel, rfl, by decide +kernel, by decide +kernel⟩
theorem mono_lt {i j : Nat} {σ : St} {H : Hp} {r : Int → Int → V} {Q Q' : Bool → Hp → Prop} (h : ∀ b H1, Q b H1 → Q' b H1) (z : tTest (tOp (rI0 r) (tVar i) (tCB (rLenS K) (tCons (tVar j) tNil))) σ H Q) : tTest (tOp (rI0 r) (tVar i) (tCB (rLenS K) (tCons (tVar j) tNil))) σ H Q' := by
  obtain ⟨v, hv, u, hu, p, ys, e0, hs, a, b, e1, e2, k, ek, q⟩ := z
  exact ⟨v, hv, u, hu, p, ys, e0, hs, a, b, e1, e2, k, ek, h _ _ q⟩
theorem ok_bel {f fE : Addr} {fd fdE : FuncData} (F : Fun K "_law_below" "_law_below" sBel f fd) (B : Blt mg) (N : Known P w K mg base CX0 2 "_law_end" fE fdE ["_law_kinds_here", "_law_row", "_law_start"] spEnd) : FnOk P w K mg base CX0 3 f fd ["_law_kinds_here", "_law_row"] spSplit := by
  refine F.ok scBe (fun vs H Q E h => ?_) (fun cdv A outer s H vs Q E hr h => ?_)
  · obtain ⟨a, t, ks, ns, rfl, _⟩ := h
    rfl
  · obtain ⟨a, t, ks, ns, rfl, ha, hk, ht, ok, q⟩ := h
    refine ⟨_, pss_cons (ps_par (i := 2) (j := 3) (by rfl) scBe.nd rfl rfl (by decide) rfl rfl (pa_cons (pe_lst pa_nil) (pa_cons pe_int pa_nil)) (by rfl))
      (pss_cons (ps_while PassesOwn.never (pt_cmpR op_lt (pv 3) (pe_callB call_len_seq (by rfl) B.len PySem.boot_len (pa_cons (pv 1) pa_nil)) (nomark _))
        (pss_cons (ps_set (i := 4) scBe.nd rfl (Or.inl rfl) (pe_call N.G hr (by rfl) N.m N.k N.b .nil pass0 (pa_cons (pv 0) (pa_cons (pv 1) (pa_cons (pv 3) pa_nil)))))
        (pss_cons (ps_expr (pe_bm PySem.F.plainAttrs_list PySem.F.slot_list_append PySem.F.type_list_append mt_append (pv 2) (pa_cons (pe_slice sl_tupW (pv 1) (po_some (pv 3)) (po_some (pv 4))) pa_nil)))
        (pss_one (ps_set (i := 3) scBe.nd rfl (Or.inl rfl) (pv 4))))))
      (pss_one (ps_ret (pv 2)))), ?_⟩
    have h0 := ok.pos
    have h30 := ok.le
    have h3 := arN_le hk ns[0]
    refine ⟨Nat.zero_le _, fun l hl => ⟨_, _, rfl, ?_⟩⟩
    refine while_by (fun σ H2 => ∃ (j : Nat) (ts : List Addr) (o4 : Option V), j ≤ arN ks ns[0] ∧ Same H H2 ∧ H2 l = some (.lst (ts.map V.ref)) ∧ Paired (TAt H2) ts ((begF (arL ks ns) j 1).map (subF ks ns)) ∧ σ = [some (.ref a), some (.ref t), some (.ref l), some (nV (nthB (arL ks ns) 1 j)), o4])
      (fun σ _ => mz 3 σ) ⟨0, [], _, Nat.zero_le _, same_new hl, upd_same, .nil, rfl⟩ ?_ (fun σ H Q Q' h z => mono_lt h z)
    rintro σ H2 ⟨j, ts, o4, hj, S2, hl2, hpr, rfl⟩
    refine ⟨_, rfl, _, rfl, t, _, rfl, .inr (SqT.of (S2 _ _ ht)), _, _, rfl, rfl, _, rfl, ?_⟩
    refine ite2 (fun hlt => ?_) (fun hlt => ?_)
    · have hlt : ((nthB (arL ks ns) 1 j : Nat) : Int) < (((ns.map nV).length : Nat) : Int) := of_decide_eq_true hlt
      rw [List.length_map] at hlt
      have hlt' : nthB (arL ks ns) 1 j < ns.length := by omega
      have hjl : j < arN ks ns[0] := by
        rcases Nat.lt_or_ge j (arN ks ns[0]) with z | z
        · exact z
        · have e : j = arN ks ns[0] := by omega
          have := nthB_end ok h0
          rw [show endF (arL ks ns) 0 = ns.length from by
            have E0 := endF_at ok.rem (i := 0) (by rw [arL_len]; exact h0)
            have := sub_len ok h0
            rw [sub_zero ok] at this
            omega] at this
          rw [e] at hlt'
          have this : nthB (arL ks ns) 1 (arN ks ns[0]) = ns.length := this
          omega
      refine ⟨_, rfl, _, rfl, _, rfl, a, t, ks, ns, _, rfl, ha.same S2, hk, ht.same S2, ok, hlt', fun e E1 => ?_⟩
      have El := E1.le
      rw [arL_len] at El
      have Elt := E1.lt
      refine ⟨_, rfl, .inl ⟨rfl, _, SqL.of hl2⟩, _, rfl, _, rfl, _, rfl, _, rfl, _, rfl, t, _, rfl, S2 _ _ ht, fun p H3 S3 hp3 => ?_⟩
      rw [cut_mid (Nat.le_of_lt E1.lt) El] at hp3
      have hp4 : TAt H3 p (subF ks ns (nthB (arL ks ns) 1 j)) := by
        unfold subF
        rw [E1.endF]
        exact hp3
      refine ⟨l, _, _, rfl, rfl, S3 _ _ hl2, ?_, ?_⟩
      · rw [List.length_map, Paired.length hpr, List.length_map, begF_len]; exact small1000 (by omega)
      have T4 : Tp H3 (upd H3 l (.lst (ts.map V.ref ++ [V.ref p]))) := Tp.lst (S3 _ _ hl2)
      refine ⟨_, rfl, ⟨j + 1, ts ++ [p], some (nV e), hjl, (S2.trans S3).over hl, by rw [upd_same, List.map_append]; rfl, ?_, ?_⟩, ?_⟩
      · rw [begF_succ, List.map_append]
        exact paired_snoc (R := TAt _) (T4 _ _ hp4) (paired_mono hpr fun x y z => T4 _ _ (S3 _ _ z))
      · show _ = [some (V.ref a), some (V.ref t), some (V.ref l), some (nV (endF (arL ks ns) (nthB (arL ks ns) 1 j))), some (nV e)]
        rw [E1.endF]
        rfl
      · show (100 - ((e : Nat) : Int)).toNat < (100 - ((nthB (arL ks ns) 1 j : Nat) : Int)).toNat
        omega
    · have hge : ns.length ≤ nthB (arL ks ns) 1 j := by
        have : ¬ ((nthB (arL ks ns) 1 j : Nat) : Int) < (((ns.map nV).length : Nat) : Int) := fun z => hlt (decide_eq_true z)
        rw [List.length_map] at this
        omega
      have hje : j = arN ks ns[0] := by
        rcases Nat.lt_or_ge j (arN ks ns[0]) with z | z
        · have h4 := (nthB_ok ok h0 j (by omega)).2.2.2 z
          have h4 : nthB (arL ks ns) 1 j < ns.length := h4
          omega
        · omega
      subst hje
      refine ⟨_, rfl, q l H2 S2 hl ⟨ts, hl2, ?_⟩⟩
      unfold partsF
      rw [getD_head h0]
      exact hpr
end
end K3


set_option Elab.async false
set_option linter.all false
set_option maxRecDepth 100000
set_option maxHeartbeats 1600000
namespace K3
open PySem L2 LN
/-- the second thing of a pair -/
def sndOf (H : Hp) (x : Addr) : Addr := match H x with
  | some (.tup [_, .ref t]) => t
  | _ => 0
def κp (R : Addr → List Nat) (H : Hp) : V → List Int
  | .ref x => rk (R (sndOf H x))
  | _ => []
def PrAt (R : Addr → List Nat) (H : Hp) (x t : Addr) : Prop := H x = some (.tup [.int ((R t).length : Nat), .ref t])
theorem PrAt.snd {R : Addr → List Nat} {H : Hp} {x t : Addr} (h : PrAt R H x t) : sndOf H x = t := by
  unfold sndOf
  rw [show H x = _ from h]
theorem prs_of {R : Addr → List Nat} {H : Hp} : ∀ {xs ts : List Addr}, Paired (PrAt R H) xs ts → ts = xs.map (sndOf H) ∧ ∀ x ∈ xs, PrAt R H x (sndOf H x)
  | _, _, .nil => ⟨rfl, fun t z => nomatch z⟩
  | _, _, .cons r p => by
    obtain ⟨e, h⟩ := prs_of p
    refine ⟨by rw [List.map_cons, r.snd, ← e], fun t ht => ?_⟩
    rcases List.mem_cons.mp ht with rfl | z
    · rw [r.snd]; exact r
    · exact h t z
section
variable {P : Program} {w : World} {K : PySem.W.Frag} {mg : Str → Option Value} {base : Heap}
abbrev NOr : List Str := ["_law_rows", "_law_row", "_law_many"]
theorem scOL : FnScope NOr ["_law_rows"] (defScope sOrL) := ⟨rfl, rfl, rfl, by decide +kernel, rfl, by decide +kernel, by decide +kernel⟩
theorem ok_orl {f : Addr} {fd : FuncData} (F : Fun K "_law_ordered" "_law_ordered" sOrL f fd) (B : Blt mg) (hS : mg "sorted" = none) : FnOk P w K mg base CX0 2 f fd ["_law_rows"] spOrL := by
  refine F.ok scOL (fun vs H Q E h => ?_) (fun cdv A outer s H vs Q E hr h => ?_)
  · obtain ⟨l, rows, rfl, _⟩ := h
    rfl
  · obtain ⟨l, rows, rfl, ⟨ts, hl, hts⟩, h64, q⟩ := h
    have hu : (A.deeper (PyProof.Rows.envOfC "_law_ordered" (defScope sOrL) s.heap.objs.size f cdv)).units + 2 < cLine := by have := hr.units; omega
    refine ⟨_, pss_one (ps_ret (pe_lc (own := [("_law_many", 2), ("_law_row", 1)]) (g := gTup K 2 (gCons (gName 2) (gCons (gName 1) gNil))) (te := tVar 1) (by rfl) scOL.nd
      (pi_list (pe_callB (cr_srtP hu) (by rfl) hS (by decide +kernel) (pa_cons (pe_lc (own := [("_law_row", 1)]) (g := gName 1) (te := tTup (tCons (tCB (rLenS K) (tCons (tVar 1) tNil)) (tCons (tVar 1) tNil))) (by rfl) scOL.nd (pi_list (pv 0)) (blkOk_by (own := [("_law_row", 1)]) (N := NOr) (sc := defScope sOrL) (by decide +kernel))
        (fun _ _ _ _ _ => pg_name (i := 1) scOL.nd rfl (Or.inl rfl)) (fun _ _ _ _ _ => pts_nil) (fun _ _ _ _ _ => pe_tup (pa_cons (pe_callB call_len_seq (by rfl) B.len PySem.boot_len (pa_cons (pv 1) pa_nil)) (pa_cons (pv 1) pa_nil)))) pa_nil)))
      (blkOk_by (own := [("_law_many", 2), ("_law_row", 1)]) (N := NOr) (sc := defScope sOrL) (by decide +kernel))
      (fun _ _ _ _ _ => pg_tup (by rfl) (pgs_cons (pg_name (i := 2) scOL.nd rfl (Or.inl rfl)) (pgs_cons (pg_name (i := 1) scOL.nd rfl (Or.inl rfl)) pgs_nil))) (fun _ _ _ _ _ => pts_nil) (fun _ _ _ _ _ => pv 1))), ?_⟩
    obtain ⟨er, hrow⟩ := paired_rows hts
    have hlen : ts.length = rows.length := Paired.length hts
    refine ⟨_, rfl, l, rfl, ⟨_, SqL.of hl⟩, fun D hD => ?_⟩
    refine lc_list (xs := ts.map V.ref) (fun i H3 => Same H H3 ∧ ∃ xs : List Addr, H3 D = some (.lst (xs.map V.ref)) ∧ Paired (PrAt (rowOf H) H3) xs (ts.take i)) ⟨same_new hD, [], upd_same, .nil⟩ (fun i H3 _ h => SqL.of (h.1 _ _ hl)) ?_ ?_
    · rintro i x H3 hx ⟨S3, xs, hxs, hpr⟩
      rw [List.getElem?_map] at hx
      obtain ⟨t, ht, rfl⟩ := Option.map_eq_some_iff.mp hx
      have htm : t ∈ ts := List.mem_of_getElem? ht
      have hi : i < ts.length := (List.getElem?_eq_some_iff.mp ht).1
      have ht3 := hrow t htm
      refine ⟨rfl, _, rfl, t, _, rfl, .inr (SqT.of (S3 _ _ ht3)), _, rfl, by show 2 ≤ sizeLine; decide, fun y hy => ?_⟩
      have hyD : D ≠ y := ne_of_none hxs hy
      have S4 : Same H3 (upd H3 y (.tup [.int ((rowOf H t).map nV).length, .ref t])) := same_new hy
      refine ⟨xs.map V.ref, S4 _ _ hxs, by rw [List.length_map, Paired.length hpr, List.length_take]; exact small1000 (by omega), (S3.trans S4).over hD, xs ++ [y], by rw [upd_same, List.map_append]; rfl, ?_⟩
      rw [List.take_add_one, ht]
      have T5 : Tp H3 (upd (upd H3 y (.tup [.int ((rowOf H t).map nV).length, .ref t])) D (.lst (xs.map V.ref ++ [V.ref y]))) := (Tp.of S4).trans (Tp.lst (S4 _ _ hxs))
      refine paired_snoc (R := PrAt (rowOf H) _) ?_ (paired_mono hpr fun a b z => T5 _ _ z)
      show _ = some _
      rw [upd_ne hyD.symm, upd_same, List.length_map]
    · rintro H3 ⟨S3, xs, hxs, hpr⟩
      rw [List.length_map, List.take_length] at hpr
      obtain ⟨ets, hx⟩ := prs_of hpr
      have hlx : xs.length = ts.length := Paired.length hpr
      have hrow3 : ∀ t ∈ ts, TAt H3 t (rowOf H t) := fun t ht => S3 _ _ (hrow t ht)
      have hsm : ∀ x ∈ xs, sndOf H3 x ∈ ts := fun x hx' => by rw [ets]; exact List.mem_map.mpr ⟨x, hx', rfl⟩
      refine ⟨D, xs.map V.ref, κp (rowOf H) H3, rfl, SqL.of hxs, by rw [List.length_map]; omega, fun a ha => ?_, fun bs p hb hs hp => ?_⟩
      · obtain ⟨x, hx', rfl⟩ := List.mem_map.mp ha
        exact ⟨x, sndOf H3 x, _, _, rfl, SqT.of (hx x hx'), SqT.of (hrow3 _ (hsm x hx')).int, rfl⟩
      obtain ⟨zs, pz, rfl⟩ := perm_lift hb rfl
      have hzx : ∀ z ∈ zs, z ∈ xs := fun z hz => pz.mem_iff.mp hz
      have hpD : D ≠ p := ne_of_none hxs hp
      have S4 : ∀ o, Same H3 (upd H3 p o) := fun o => same_new hp
      refine ⟨p, rfl, ⟨_, SqL.of upd_same⟩, fun D2 hD2 => ?_⟩
      have hD20 : H3 D2 = none := free_of (S4 _) hD2
      refine lc_valsL (xs := zs.map V.ref) (ys := (zs.map (sndOf H3)).map V.ref) hD2 (by rw [List.length_map]; have := pz.length_eq; omega) (by rw [List.length_map, List.length_map, List.length_map]) (SqL.of upd_same) ?_ ?_
      · intro i x' y H5 Q' hx' hy S5 k
        rw [List.getElem?_map] at hx'
        obtain ⟨z, hz, rfl⟩ := Option.map_eq_some_iff.mp hx'
        rw [List.getElem?_map, List.getElem?_map, hz] at hy
        cases hy
        have hz3 := hx z (hzx z (List.mem_of_getElem? hz))
        exact ⟨z, _, rfl, SqT.of (S5 _ _ (S4 _ _ _ hz3)), rfl, _, _, rfl, _, _, rfl, rfl, rfl, _, rfl, k _ (Same.refl _)⟩
      · intro H5 S5 hat
        have S35 : Same H3 H5 := (S4 _).trans S5
        refine q D2 ((zs.map (sndOf H3)).map (rowOf H)) H5 (S3.trans S35) (free_of (S3.trans (S4 _)) hD2) ⟨zs.map (sndOf H3), hat, ?_⟩ ?_ ?_
        · have : ∀ us : List Addr, (∀ u ∈ us, TAt H5 u (rowOf H u)) → Paired (TAt H5) us (us.map (rowOf H)) := by
            intro us
            induction us with
            | nil => intro _; exact .nil
            | cons u us ih => intro h; exact .cons (h u (.head _)) (ih fun v hv => h v (.tail _ hv))
          refine this _ fun u hu => ?_
          obtain ⟨z, hz, rfl⟩ := List.mem_map.mp hu
          exact S35 _ _ (hrow3 _ (hsm z (hzx z hz)))
        · rw [er, ets]
          exact (pz.map _).map _
        · rw [List.map_map, List.pairwise_map]
          rw [List.pairwise_map] at hs
          exact hs
end
end K3


set_option Elab.async false
set_option linter.all false
set_option maxRecDepth 100000
set_option maxHeartbeats 1600000
namespace K3
open PySem L2 LN
abbrev cI (r : List Nat) : List Int := r.map fun n : Nat => (n : Int)
theorem nodup_of_map {α β : Type} {f : α → β} : ∀ {l : List α}, (l.map f).Nodup → l.Nodup
  | [], _ => List.nodup_nil
  | x :: l, h => by
    rw [List.map_cons, List.nodup_cons] at h
    rw [List.nodup_cons]
    exact ⟨fun z => h.1 (List.mem_map.mpr ⟨x, z, rfl⟩), nodup_of_map h.2⟩
section
variable {P : Program} {w : World} {K : PySem.W.Frag} {mg : Str → Option Value} {base : Heap}
abbrev NIn : List Str := ["_law_kinds_here", "_law_row", "_law_at"]
theorem scIL : FnScope NIn ["_law_kinds_here", "_law_row"] (defScope sInL) := ⟨rfl, rfl, rfl, by decide +kernel, rfl, by decide +kernel, by decide +kernel⟩
theorem ok_inl {f fE fO : Addr} {fd fdE fdO : FuncData} (F : Fun K "_law_inner" "_law_inner" sInL f fd) (B : Blt mg) (hS : mg "sorted" = none) (N : Known P w K mg base CX0 2 "_law_end" fE fdE ["_law_kinds_here", "_law_row", "_law_start"] spEnd)
    (O : Known P w K mg base CX0 2 "_law_ordered" fO fdO ["_law_rows"] spOrL) : FnOk P w K mg base CX0 3 f fd ["_law_kinds_here", "_law_row"] spInner := by
  refine F.ok scIL (fun vs H Q E h => ?_) (fun cdv A outer s H vs Q E hr h => ?_)
  · obtain ⟨a, t, ks, ns, rfl, _⟩ := h
    rfl
  · obtain ⟨a, t, ks, ns, rfl, ha, hk, ht, ok, q⟩ := h
    have hu : (A.deeper (PyProof.Rows.envOfC "_law_inner" (defScope sInL) s.heap.objs.size f cdv)).units + 4 < cLine := by have := hr.units; omega
    have hu2 : (A.deeper (PyProof.Rows.envOfC "_law_inner" (defScope sInL) s.heap.objs.size f cdv)).units + 2 < cLine := by have := hr.units; omega
    refine ⟨_, pss_one (ps_ret (pe_call O.G hr (by rfl) O.m O.k O.b .nil pass0 (pa_cons (pe_callB (cr_srtS rfl hu2) (by rfl) hS (by decide +kernel) (pa_cons (pe_callTy (call_setR rfl hu) (by rfl) B.set (by decide +kernel) (pa_cons
      (pe_lc (own := [("_law_at", 2)]) (g := gName 2) (te := tSl rSlW (tVar 1) (tPart (tVar 2)) (tPart (tCall spEnd [] E0 (tCons (tVar 0) (tCons (tVar 1) (tCons (tVar 2) tNil)))))) (by rfl) scIL.nd (pi_range1 (by rfl) B.range (pa_cons (pe_callB call_len_seq (by rfl) B.len PySem.boot_len (pa_cons (pv 1) pa_nil)) pa_nil))
        (blkOk_by (own := [("_law_at", 2)]) (N := NIn) (sc := defScope sInL) (by decide +kernel)) (fun _ _ _ _ _ => pg_name (i := 2) scIL.nd rfl (Or.inl rfl)) (fun _ _ _ _ _ => pts_nil)
        (fun _ _ _ _ _ => pe_slice sl_tupW (pv 1) (po_some (pv 2)) (po_some (pe_call N.G hr (by rfl) N.m N.k N.b .nil pass0 (pa_cons (pv 0) (pa_cons (pv 1) (pa_cons (pv 2) pa_nil))))))) pa_nil)) pa_nil)) pa_nil))), ?_⟩
    have h0 := ok.pos
    have h30 := ok.le
    refine ⟨_, rfl, t, _, rfl, .inr (SqT.of ht), _, rfl, by rw [List.length_map]; omega, by rw [List.length_map]; omega, fun D hD => ?_⟩
    rw [List.length_map, show ((ns.length : Nat) : Int).toNat = ns.length by simp]
    refine lc_range (fun i H3 => Same H H3 ∧ ∃ ts : List Addr, H3 D = some (.lst (ts.map V.ref)) ∧ Paired (TAt H3) ts ((List.range i).map (subF ks ns))) ⟨same_new hD, [], upd_same, .nil⟩ ?_ ?_
    · rintro i H3 hi ⟨S3, ts, hts, hpr⟩
      rw [show (0 : Int) + (i : Nat) = ((i : Nat) : Int) by omega]
      refine ⟨rfl, _, rfl, _, rfl, _, rfl, _, rfl, _, rfl, _, rfl, a, t, ks, ns, i, rfl, ha.same S3, hk, ht.same S3, ok, hi, fun e E1 => ?_⟩
      have El := E1.le
      rw [arL_len] at El
      refine ⟨_, rfl, t, _, rfl, S3 _ _ ht, fun p H4 S4 hp4 => ?_⟩
      rw [cut_mid (Nat.le_of_lt E1.lt) El] at hp4
      have hp5 : TAt H4 p (subF ks ns i) := by
        unfold subF
        rw [E1.endF]
        exact hp4
      refine ⟨ts.map V.ref, S4 _ _ hts, by rw [List.length_map, Paired.length hpr, List.length_map, List.length_range]; exact small1000 (by omega), (S3.trans S4).over hD, ts ++ [p], by rw [upd_same, List.map_append]; rfl, ?_⟩
      have T4 : Tp H4 (upd H4 D (.lst (ts.map V.ref ++ [V.ref p]))) := Tp.lst (S4 _ _ hts)
      rw [List.range_succ, List.map_append]
      exact paired_snoc (R := TAt _) (T4 _ _ hp5) (paired_mono hpr fun x y z => T4 _ _ (S4 _ _ z))
    · rintro H3 ⟨S3, ts, hts, hpr⟩
      obtain ⟨er, hrow⟩ := paired_rows hpr
      have hlen : ts.length = ns.length := by rw [Paired.length hpr, List.length_map, List.length_range]
      have memr : ∀ r, r ∈ ts.map (rowOf H3) ↔ ∃ i, i < ns.length ∧ r = subF ks ns i := fun r => by
        rw [← er, List.mem_map]
        constructor
        · rintro ⟨i, hi, rfl⟩; exact ⟨i, List.mem_range.mp hi, rfl⟩
        · rintro ⟨i, hi, rfl⟩; exact ⟨i, List.mem_range.mpr hi, rfl⟩
      refine ⟨D, ts.map (fun t => (cI (rowOf H3 t), t)), rfl, SqL.of (by rw [List.map_map]; exact hts), by rw [List.length_map]; omega, fun r hr' => ?_, fun p xs hp hsub hnd hcov hlx => ?_⟩
      · obtain ⟨u, hu', rfl⟩ := List.mem_map.mp hr'
        exact (hrow u hu').int
      have hxs : ∀ x ∈ xs, x.2 ∈ ts ∧ x.1 = cI (rowOf H3 x.2) := fun x hx => by
        obtain ⟨u, hu', rfl⟩ := List.mem_map.mp (hsub x hx)
        exact ⟨hu', rfl⟩
      have S4 : Same H3 (upd H3 p (SetR P w p xs)) := same_new hp
      rw [List.length_map] at hlx
      refine ⟨p, xs, rfl, upd_same, by omega, fun x hx => ?_, fun ys p2 hy hup hp2 => ?_⟩
      · obtain ⟨h1, h2⟩ := hxs x hx
        refine ⟨?_, ?_⟩
        · show _ = some _
          rw [h2]
          exact S4 _ _ (hrow _ h1).int
        · rw [h2]
          obtain ⟨i, hi, e⟩ := (memr _).mp (List.mem_map.mpr ⟨_, h1, rfl⟩)
          rw [e]
          have := sub_head ok hi
          intro z
          have := congrArg List.length z
          rw [List.length_map, List.length_nil] at this
          omega
      have S5 : Same H3 (upd (upd H3 p (SetR P w p xs)) p2 (.lst (ys.map rV))) := S4.trans (same_new hp2)
      have hys : ∀ y ∈ ys, y.2 ∈ ts ∧ y.1 = cI (rowOf H3 y.2) := fun y hy' => hxs y (hy.mem_iff.mp hy')
      have hpr5 : Paired (TAt (upd (upd H3 p (SetR P w p xs)) p2 (.lst (ys.map rV)))) (ys.map (·.2)) (ys.map fun y => rowOf H3 y.2) := by
        have : ∀ us : List (List Int × Addr), (∀ u ∈ us, u.2 ∈ ts) → Paired (TAt (upd (upd H3 p (SetR P w p xs)) p2 (.lst (ys.map rV)))) (us.map (·.2)) (us.map fun y => rowOf H3 y.2) := by
          intro us
          induction us with
          | nil => intro _; exact .nil
          | cons u us ih => intro h; exact .cons (S5 _ _ (hrow _ (h u (.head _)))) (ih fun v hv => h v (.tail _ hv))
        exact this ys fun u hu' => (hys u hu').1
      have hly : ys.length = xs.length := hy.length_eq
      refine ⟨p2, ys.map (fun y : List Int × Addr => rowOf H3 y.2), rfl, ⟨ys.map (fun y : List Int × Addr => y.2), by rw [upd_same, List.map_map]; rfl, hpr5⟩, by rw [List.length_map]; omega, fun p3 rows' H6 S6 hp3 hr6 hpm hup6 => ?_⟩
      refine q p3 rows' H6 ((S3.trans S5).trans S6) (free_of (S3.trans S5) hp3) hr6 ⟨hup6, ?_, fun r => ?_⟩
      · refine hpm.nodup_iff.mpr (nodup_of_map (f := cI) ?_)
        have e : (ys.map fun y => rowOf H3 y.2).map cI = ys.map (·.1) := by
          rw [List.map_map]
          exact List.map_congr_left fun y hy' => ((hys y hy').2).symm
        rw [e]
        exact ((hy.map (·.1)).nodup_iff).mpr hnd
      · rw [hpm.mem_iff, ← memr]
        constructor
        · intro h
          obtain ⟨y, hy', rfl⟩ := List.mem_map.mp h
          exact List.mem_map.mpr ⟨_, (hys y hy').1, rfl⟩
        · intro h
          obtain ⟨u, hu', rfl⟩ := List.mem_map.mp h
          obtain ⟨x, hx, ex⟩ := List.mem_map.mp (hcov (cI (rowOf H3 u), u) (List.mem_map.mpr ⟨u, hu', rfl⟩))
          have ex : x.1 = cI (rowOf H3 u) := ex
          refine List.mem_map.mpr ⟨x, hy.mem_iff.mpr hx, ?_⟩
          rw [(hxs x hx).2] at ex
          exact cast_inj ex
end
end K3


set_option Elab.async false
set_option linter.all false
set_option maxRecDepth 100000
set_option maxHeartbeats 1600000
namespace LN
open PySem L2
theorem parts_len {ks : KS} (hk : KOk ks) (r : List Nat) : (partsF ks r).length ≤ 3 := by
  unfold partsF begF
  rw [List.length_map, List.length_map, List.length_range]
  exact arN_le hk _
theorem flat_len {ks : KS} (hk : KOk ks) : ∀ L : List (List Nat), (L.flatMap (partsF ks)).length ≤ 3 * L.length
  | [] => by simp
  | r :: L => by
    rw [List.flatMap_cons, List.length_append, List.length_cons]
    have := parts_len hk r
    have := flat_len hk L
    omega
def smL (L : List (List Nat)) : Nat := (L.map List.length).sum
theorem smL_app (L M : List (List Nat)) : smL (L ++ M) = smL L + smL M := by unfold smL; rw [List.map_append, List.sum_append]
theorem beg_sum {ks : KS} {ns : List Nat} (ok : TOk ks ns) (h0 : 0 < ns.length) : ∀ j, j ≤ arN ks ns[0] → smL ((begF (arL ks ns) j 1).map (subF ks ns)) + 1 = nthB (arL ks ns) 1 j
  | 0, _ => rfl
  | j + 1, hj => by
    have ih := beg_sum ok h0 j (by omega)
    have h4 := (nthB_ok ok h0 j (by omega)).2.2.2 (by omega)
    have h4 : nthB (arL ks ns) 1 j < ns.length := h4
    have E := endF_at ok.rem (i := nthB (arL ks ns) 1 j) (by rw [arL_len]; exact h4)
    have l1 := E.lt
    unfold begF
    rw [List.range_succ, List.map_append, List.map_append, smL_app]
    show smL ((begF (arL ks ns) j 1).map (subF ks ns)) + ((subF ks ns (nthB (arL ks ns) 1 j)).length + 0) + 1 = endF (arL ks ns) (nthB (arL ks ns) 1 j)
    rw [sub_len ok h4]
    omega
theorem parts_sum {ks : KS} {ns : List Nat} (ok : TOk ks ns) : smL (partsF ks ns) + 1 = ns.length := by
  have h0 := ok.pos
  have := beg_sum ok h0 _ (Nat.le_refl _)
  unfold partsF
  rw [getD_head h0, this, show nthB (arL ks ns) 1 (arN ks ns[0]) = endF (arL ks ns) 0 from nthB_end ok h0]
  have := sub_len ok h0
  rw [sub_zero ok] at this
  omega
theorem flat_sum {ks : KS} : ∀ {L : List (List Nat)}, (∀ r ∈ L, TOk ks r) → smL (L.flatMap (partsF ks)) + L.length = smL L
  | [], _ => rfl
  | r :: L, h => by
    have h1 := parts_sum (h r (.head _))
    have h2 := flat_sum (L := L) fun q hq => h q (.tail _ hq)
    rw [List.flatMap_cons, smL_app, List.length_cons]
    show _ = r.length + smL L
    omega
theorem flat_ok {ks : KS} {L : List (List Nat)} (h : ∀ r ∈ L, TOk ks r) : ∀ r ∈ L.flatMap (partsF ks), TOk ks r := fun r hr => by
  obtain ⟨q, hq, hr⟩ := List.mem_flatMap.mp hr
  exact (parts_mem (h q hq) hr).1
theorem sm_le {ks : KS} : ∀ {L : List (List Nat)}, (∀ r ∈ L, TOk ks r) → L.length ≤ smL L
  | [], _ => Nat.le_refl _
  | r :: L, h => by
    have := (h r (.head _)).pos
    have := sm_le (L := L) fun q hq => h q (.tail _ hq)
    rw [List.length_cons]
    show _ ≤ r.length + smL L
    omega
/-- the rows that a list holds -/
def lrow (H : Hp) (l : Addr) : List (List Nat) := match H l with
  | some (.lst xs) => xs.map fun v => match v with
    | .ref t => rowOf H t
    | _ => []
  | _ => []
theorem RowsAt.rows {H : Hp} {l : Addr} {rows : List (List Nat)} (h : RowsAt H l rows) : lrow H l = rows := by
  obtain ⟨ts, h1, h2⟩ := h
  unfold lrow
  rw [h1]
  dsimp only
  rw [List.map_map, (paired_rows h2).1]
  rfl
/-! ### as data -/
def rowsD (rows : List (List Nat)) : List PyData := rows.map fun r => .tuple (natD r)
theorem dp_rows {K : PySem.W.Frag} {H : Hp} : ∀ {ts : List Addr} {rows : List (List Nat)}, Paired (TAt H) ts rows → DpAll K H (ts.map V.ref) (rowsD rows)
  | _, _, .nil => .nil
  | _, _, .cons r p => .cons (.tup (SqT.of r) (dp_nats _)) (dp_rows p)
theorem RowsAt.dp {K : PySem.W.Frag} {H : Hp} {l : Addr} {rows : List (List Nat)} (h : RowsAt H l rows) : Dp K H (.ref l) (.list (rowsD rows)) := by
  obtain ⟨ts, h1, h2⟩ := h
  exact .lst (SqL.of h1) (dp_rows h2)
theorem lay_nats : ∀ ns : List Nat, PyData.canLayAll0 (natD ns) = true ∧ PyData.depthAll (natD ns) ≤ 1
  | [] => ⟨by simp [natD, PyData.canLayAll0], by simp [natD, PyData.depthAll]⟩
  | n :: ns => by
    obtain ⟨h1, h2⟩ := lay_nats ns
    refine ⟨?_, ?_⟩
    · show PyData.canLayAll0 (PyData.int (n : Int) :: natD ns) = true
      simp [PyData.canLayAll0, PyData.canLay0, h1]
    · show PyData.depthAll (PyData.int (n : Int) :: natD ns) ≤ 1
      simp only [PyData.depthAll, PyData.depth]
      omega
theorem lay_rows : ∀ rows : List (List Nat), PyData.canLayAll0 (rowsD rows) = true ∧ PyData.depthAll (rowsD rows) ≤ 3
  | [] => ⟨by simp [rowsD, PyData.canLayAll0], by simp [rowsD, PyData.depthAll]⟩
  | r :: rows => by
    obtain ⟨h1, h2⟩ := lay_rows rows
    obtain ⟨h3, h4⟩ := lay_nats r
    refine ⟨?_, ?_⟩
    · show PyData.canLayAll0 (PyData.tuple (natD r) :: rowsD rows) = true
      simp [PyData.canLayAll0, PyData.canLay0, h1, h3]
    · show PyData.depthAll (PyData.tuple (natD r) :: rowsD rows) ≤ 3
      simp only [PyData.depthAll, PyData.depth]
      omega
theorem shaped_rows (rows : List (List Nat)) : SeqAt.shaped (.list (rowsD rows)) = true := by
  obtain ⟨h1, h2⟩ := lay_rows rows
  unfold SeqAt.shaped
  rw [Bool.and_eq_true]
  exact ⟨by simp only [PyData.canLay0]; exact h1, decide_eq_true (by simp only [PyData.depth]; omega)⟩
theorem eqv_nil : ∀ rows : List (List Nat), PyData.eqv (.list (rowsD rows)) (.list []) = rows.isEmpty
  | [] => rfl
  | _ :: _ => rfl
end LN
namespace K3
open PySem L2 LN
abbrev sDpL : Stmt := top 38
section
variable {P : Program} {w : World} {K : PySem.W.Frag} {mg : Str → Option Value} {base : Heap}
theorem mono_ne {σ : St} {H : Hp} {i : Nat} {Q Q' : Bool → Hp → Prop} (h : ∀ b H1, Q b H1 → Q' b H1) (z : tTest (tOp (rNeD K) (tVar i) (tLst tNil)) σ H Q) : tTest (tOp (rNeD K) (tVar i) (tLst tNil)) σ H Q' := by
  obtain ⟨v, hv, hz, z⟩ := z
  refine ⟨v, hv, hz, fun l hl => ?_⟩
  obtain ⟨d, e, h1, h2, h3, h4, k, ek, q⟩ := z l hl
  exact ⟨d, e, h1, h2, h3, h4, k, ek, h _ _ q⟩
def mlv (σ : St) (H : Hp) : Nat := match σ[3]? with
  | some (some (V.ref l)) => smL (lrow H l)
  | _ => 0
theorem scDL : FnScope ["_law_kinds_here", "_law_row", "_law_found", "_law_level", "_law_below_here", "_law_one"] ["_law_kinds_here", "_law_row"] (defScope sDpL) := ⟨rfl, rfl, rfl, by decide +kernel, rfl, by decide +kernel, by decide +kernel⟩
theorem ok_dpl {f fB : Addr} {fd fdB : FuncData} (F : Fun K "_law_depth" "_law_depth" sDpL f fd) (N : Known P w K mg base CX0 3 "_law_below" fB fdB ["_law_kinds_here", "_law_row"] spSplit) : FnOk P w K mg base CX0 4 f fd ["_law_kinds_here", "_law_row"] spDepth := by
  refine F.ok scDL (fun vs H Q E h => ?_) (fun cdv A outer s H vs Q E hr h => ?_)
  · obtain ⟨a, t, ks, ns, rfl, _⟩ := h
    rfl
  · obtain ⟨a, t, ks, ns, rfl, ha, hk, ht, ok, q⟩ := h
    refine ⟨_, pss_cons (ps_par (i := 2) (j := 3) (by rfl) scDL.nd rfl rfl (by decide) rfl rfl (pa_cons pe_int (pa_cons (pe_lst (pa_cons (pv 1) pa_nil)) pa_nil)) (by rfl))
      (pss_cons (ps_while PassesOwn.never (pt_cmpR (op_neD hr.units) (pv 3) (pe_lst pa_nil) (nomark _))
        (pss_cons (ps_set (i := 4) scDL.nd rfl (Or.inl rfl) (pe_lst pa_nil))
        (pss_cons (ps_for PassesOwn.never rfl (pi_list (pv 3)) (pg_name (i := 5) scDL.nd rfl (Or.inl rfl))
          (pss_one (ps_set (i := 4) scDL.nd rfl (Or.inl rfl) (pe_op op_cat (pv 4) (pe_call N.G hr (by rfl) N.m N.k N.b .nil pass0 (pa_cons (pv 0) (pa_cons (pv 5) pa_nil)))))))
        (pss_cons (ps_if (pt_cmpR (op_eqD hr.units) (pv 4) (pe_lst pa_nil) (nomark _)) (pss_one (ps_ret (pv 2))) pss_nil)
        (pss_one (ps_par (i := 2) (j := 3) (by rfl) scDL.nd rfl rfl (by decide) rfl rfl (pa_cons (pe_op op_add (pv 2) pe_int) (pa_cons (pv 4) pa_nil)) (by rfl)))))))
      (pss_one (ps_ret (pv 2)))), ?_⟩
    have h30 := ok.le
    refine ⟨_, rfl, by show 1 ≤ sizeLine; decide, fun l hl => ⟨_, _, rfl, ?_⟩⟩
    have S1 : Same H (upd H l (.lst [.ref t])) := same_new hl
    refine while_by (fun σ H2 => ∃ (k : Nat) (l : Addr) (rows : List (List Nat)) (o4 o5 : Option V), Same H H2 ∧ RowsAt H2 l rows ∧ rows ≠ [] ∧ (∀ r ∈ rows, TOk ks r) ∧ smL rows ≤ 30 ∧ 1 ≤ k ∧ k + mx (dpF ks) rows = dpF ks ns + 1 ∧ σ = [some (.ref a), some (.ref t), some (nV k), some (.ref l), o4, o5])
      mlv ⟨1, l, [ns], _, _, S1, ⟨[t], upd_same, .cons (S1 _ _ ht) .nil⟩, by simp, (fun r hr' => by rw [List.mem_singleton.mp hr']; exact ok), (by show ns.length + 0 ≤ 30; omega), Nat.le_refl _, (by show 1 + max (dpF ks ns) 0 = _; omega), rfl⟩ ?_ (fun σ H Q Q' h z => mono_ne h z)
    rintro σ H2 ⟨k, l, rows, o4, o5, S2, hr2, hne, hok, hsm, hk1, hdp, rfl⟩
    have hl30 := sm_le hok
    refine ⟨_, rfl, Nat.zero_le _, fun l0 hl0 => ?_⟩
    have S3 : Same H2 (upd H2 l0 (.lst [])) := same_new hl0
    have hr3 := hr2.same S3
    refine ⟨_, _, hr3.dp, .lst (SqL.of upd_same) .nil, shaped_rows rows, shaped_rows [], _, rfl, ?_⟩
    have e1 : (!PyData.eqv (.list (rowsD rows)) (.list [])) = true := by
      rw [eqv_nil]
      cases rows with
      | nil => exact absurd rfl hne
      | cons r rows => rfl
    refine ite2 (fun _ => ?_) (fun z => absurd e1 z)
    refine ⟨Nat.zero_le _, fun b hb => ?_⟩
    have S4 : Same (upd H2 l0 (.lst [])) (upd (upd H2 l0 (.lst [])) b (.lst [])) := same_new hb
    have S24 := S3.trans S4
    have S04 := S2.trans S24
    have hb4 : (upd (upd H2 l0 (.lst [])) b (.lst [])) b = some (.lst (([] : List Addr).map V.ref)) := upd_same
    generalize upd (upd H2 l0 (.lst [])) b (.lst []) = H4 at S4 S24 S04 hb4 ⊢
    obtain ⟨ts, hl4, hts4⟩ := hr2.same S24
    have hlen : ts.length = rows.length := Paired.length hts4
    refine ⟨_, rfl, l, rfl, ⟨_, SqL.of hl4⟩, ?_⟩
    refine for_list (K := K) (xs := ts.map V.ref) (fun j σ H5 => ∃ (b : Addr) (o5 : Option V), Same H4 H5 ∧ RowsAt H5 b ((rows.take j).flatMap (partsF ks)) ∧ σ = [some (.ref a), some (.ref t), some (nV k), some (.ref l), some (.ref b), o5])
      ⟨b, _, Same.refl _, ⟨[], hb4, .nil⟩, rfl⟩ (fun j σ H5 _ h => by obtain ⟨_, _, S5, _⟩ := h; exact SqL.of (S5 _ _ hl4)) ?_ ?_
    · rintro j x σ H5 hx ⟨b, o5, S5, ⟨ts5, hb5, hts5⟩, rfl⟩
      rw [List.getElem?_map] at hx
      obtain ⟨u, hu, rfl⟩ := Option.map_eq_some_iff.mp hx
      obtain ⟨r, hr1, hr2'⟩ := paired_at j hts4 hu
      have hrm : r ∈ rows := List.mem_of_getElem? hr1
      have S05 := S04.trans S5
      refine ⟨_, rfl, _, rfl, _, rfl, a, u, ks, r, rfl, ha.same S05, hk, S5 _ _ hr2', hok r hrm, fun l6 H6 S6 hl60 hr6 => ?_⟩
      obtain ⟨ts6, hl6, hts6⟩ := hr6
      have e5 : ts5.length ≤ 90 := by
        rw [Paired.length hts5]
        have := flat_len hk (rows.take j)
        rw [List.length_take] at this
        omega
      have e6 : ts6.length ≤ 3 := by rw [Paired.length hts6]; exact parts_len hk r
      refine ⟨b, l6, _, _, rfl, rfl, S6 _ _ hb5, hl6, ?_, fun p hp => ?_⟩
      · rw [List.length_map, List.length_map]; exact Nat.le_of_lt (small1000 (by omega))
      have S7 : Same H6 (upd H6 p (.lst (ts5.map V.ref ++ ts6.map V.ref))) := same_new hp
      refine ⟨p, _, (S5.trans S6).trans S7, ⟨ts5 ++ ts6, by rw [upd_same, List.map_append], ?_⟩, rfl⟩
      rw [List.take_add_one, hr1, List.flatMap_append]
      have ap : ∀ {xs : List Addr} {ys : List (List Nat)} {xs' : List Addr} {ys' : List (List Nat)} {R : Addr → List Nat → Prop}, Paired R xs ys → Paired R xs' ys' → Paired R (xs ++ xs') (ys ++ ys') := by
        intro xs ys xs' ys' R h1 h2
        induction h1 with
        | nil => exact h2
        | cons r _ ih => exact .cons r ih
      refine ap (paired_mono hts5 fun x y z => S7 _ _ (S6 _ _ z)) ?_
      have e : (Option.toList (some r)).flatMap (partsF ks) = partsF ks r := by
        show [r].flatMap (partsF ks) = _
        rw [List.flatMap_cons, List.flatMap_nil, List.append_nil]
      rw [e]
      exact paired_mono hts6 fun x y z => S7 _ _ z
    · rintro σ H5 ⟨b, o5, S5, hb5, rfl⟩
      rw [List.length_map, hlen, List.take_length] at hb5
      have S05 := S04.trans S5
      refine ⟨_, rfl, Nat.zero_le _, fun l7 hl7 => ?_⟩
      have S7 : Same H5 (upd H5 l7 (.lst [])) := same_new hl7
      have hb7 := hb5.same S7
      refine ⟨_, _, hb7.dp, .lst (SqL.of upd_same) .nil, shaped_rows _, shaped_rows [], _, rfl, ?_⟩
      have hmx := mx_below hok hne
      refine ite2 (fun hz => ?_) (fun hz => ?_)
      · have hz : PyData.eqv (.list (rowsD (rows.flatMap (partsF ks)))) (.list []) = true := hz
        rw [eqv_nil, List.isEmpty_iff] at hz
        rw [hz] at hmx
        have hmx : mx (dpF ks) rows = 1 + 0 := hmx
        refine ⟨_, rfl, ?_⟩
        have e : k = dpF ks ns := by omega
        rw [e]
        exact q _ (S05.trans S7)
      · have hz : ¬ PyData.eqv (.list (rowsD (rows.flatMap (partsF ks)))) (.list []) = true := hz
        rw [eqv_nil, List.isEmpty_iff] at hz
        have hfs := flat_sum hok
        refine ⟨_, rfl, _, _, rfl, rfl, _, rfl, _, _, rfl, ⟨k + 1, b, rows.flatMap (partsF ks), _, _, S05.trans S7, hb7, hz, flat_ok hok, by omega, by omega, by omega, rfl⟩, ?_⟩
        show smL (lrow _ b) < smL (lrow H2 l)
        rw [hb7.rows, hr2.rows]
        have : 0 < rows.length := List.length_pos_iff.mpr hne
        omega
end
end K3


set_option Elab.async false
set_option linter.all false
set_option maxRecDepth 100000
set_option maxHeartbeats 1600000
namespace K3
open PySem L2 LN
abbrev sPool : Stmt := top 37
def spPool : Sp := fun vs H Q _ => ∃ (p a : Addr) (ks : KS) (mn tp : Nat), vs = [.ref p, .ref a, nV mn, nV tp] ∧ PotAt H p ∧ KAt H a ks ∧ KOk ks ∧ 1 ≤ mn ∧ mn ≤ 12 ∧ 1 ≤ tp ∧ tp ≤ 30 ∧
  ∀ (l : Addr) (rows : List (List Nat)) (H' : Hp), Sam p H H' → PotAt H' p → H l = none → l ≠ p → RowsAt H' l rows → rows.length ≤ 12 → (∀ r ∈ rows, TOk ks r) → Q (.ref l) H'
/-- a row that is being put together -/
structure Half (ks : KS) (row : List Nat) (m : Nat) : Prop where
  lt : ∀ n ∈ row, n < ks.length
  rem : ∀ rest, LN.rem 1 (arL ks row ++ rest) = LN.rem m rest
  ne : row ≠ []
theorem Half.one {ks : KS} {n : Nat} (h : n < ks.length) : Half ks [n] (arN ks n) := ⟨fun x hx => by rw [List.mem_singleton.mp hx]; exact h, fun rest => by
  show LN.rem 1 (arN ks n :: rest) = _
  rw [show (1 : Nat) = 0 + 1 by rfl, rem_cons, Nat.zero_add], by simp⟩
theorem Half.add {ks : KS} {row q : List Nat} {m : Nat} (h : Half ks row (m + 1)) (ok : TOk ks q) : Half ks (row ++ q) m := by
  refine ⟨fun n hn => ?_, fun rest => ?_, by simp [h.ne]⟩
  · rcases List.mem_append.mp hn with z | z
    · exact h.lt n z
    · exact ok.lt n z
  · show LN.rem 1 ((row ++ q).map (arN ks) ++ rest) = _
    rw [List.map_append, List.append_assoc, h.rem, show m + 1 = 1 + m by omega, rem_add, rem_app _ rest 1 [] ok.rem]
    rfl
theorem Half.done {ks : KS} {row : List Nat} (h : Half ks row 0) (hl : row.length ≤ 30) : TOk ks row := ⟨hl, h.lt, by
  have := h.rem []
  rw [List.append_nil] at this
  exact this⟩
section
variable {P : Program} {w : World} {K : PySem.W.Frag} {mg : Str → Option Value} {base : Heap}
theorem mono_ltL {i j : Nat} {σ : St} {H : Hp} {r : Int → Int → V} {Q Q' : Bool → Hp → Prop} (h : ∀ b H1, Q b H1 → Q' b H1) (z : tTest (tOp (rI0 r) (tCB (rLenS K) (tCons (tVar j) tNil)) (tVar i)) σ H Q) : tTest (tOp (rI0 r) (tCB (rLenS K) (tCons (tVar j) tNil)) (tVar i)) σ H Q' := by
  obtain ⟨u, hu, p, ys, e0, hs, v, hv, a, b, e1, e2, k, ek, q⟩ := z
  exact ⟨u, hu, p, ys, e0, hs, v, hv, a, b, e1, e2, k, ek, h _ _ q⟩
theorem RowsAt.sam {H H' : Hp} {l p : Addr} {rows : List (List Nat)} (hp : PotAt H p) (n : l ≠ p) (S : Sam p H H') (h : RowsAt H l rows) : RowsAt H' l rows := by
  obtain ⟨ts, h1, h2⟩ := h
  exact ⟨ts, S _ _ h1 n, paired_mono h2 fun x y z => Tp.sam hp S _ _ z⟩
theorem log_ok {n : Nat} (h : n < 100) : ((n : Nat) : Int).natAbs.log2 < 100 := by
  have e : ((n : Nat) : Int).natAbs = n := by omega
  rw [e]
  exact Nat.lt_of_le_of_lt (Nat.log2_le_self _) h
theorem scPo : FnScope ["_law_pot_here", "_law_kinds_here", "_law_many", "_law_top", "_law_found", "_law_row", "_law_part"] ["_law_pot_here", "_law_kinds_here", "_law_many", "_law_top"] (defScope sPool) := ⟨rfl, rfl, rfl, by decide +kernel, rfl, by decide +kernel, by decide +kernel⟩
theorem ok_pool {f fT fM : Addr} {fd fdT fdM : FuncData} (F : Fun K "_law_pool" "_law_pool" sPool f fd) (B : Blt mg) (T : Known P w K mg base CX0 2 "_law_take" fT fdT ["_law_pot_here", "_law_far"] spTake) (M : Known P w K mg base CX0 3 "_law_term" fM fdM ["_law_pot_here", "_law_kinds_here", "_law_top"] spTerm) :
    FnOk P w K mg base CX0 4 f fd ["_law_pot_here", "_law_kinds_here", "_law_many", "_law_top"] spPool := by
  refine F.ok scPo (fun vs H Q E h => ?_) (fun cdv A outer s H vs Q E hr h => ?_)
  · obtain ⟨p, a, ks, mn, tp, rfl, _⟩ := h
    rfl
  · obtain ⟨p, a, ks, mn, tp, rfl, hp, ha, hk, mn1, mn12, tp1, tp30, q⟩ := h
    have hr2 := hr.mono (show 2 ≤ 2 + 1 by decide)
    refine ⟨_, pss_cons (ps_set (i := 4) scPo.nd rfl (Or.inl rfl) (pe_lst (pa_cons (pe_call M.G hr (by rfl) M.m M.k M.b .nil pass0 (pa_cons (pv 0) (pa_cons (pv 1) (pa_cons pe_int pa_nil)))) pa_nil)))
      (pss_cons (ps_while PassesOwn.never (pt_cmpR op_lt (pe_callB call_len_seq (by rfl) B.len PySem.boot_len (pa_cons (pv 4) pa_nil)) (pv 2) (nomark _))
        (pss_cons (ps_set (i := 5) scPo.nd rfl (Or.inl rfl) (pe_tup (pa_cons (pe_call T.G hr2 (by rfl) T.m T.k T.b .nil pass0 (pa_cons (pv 0) (pa_cons (pe_callB call_len_seq (by rfl) B.len PySem.boot_len (pa_cons (pv 1) pa_nil)) pa_nil))) pa_nil)))
        (pss_cons (ps_for PassesOwn.never rfl (pi_range1 (by rfl) B.range (pa_cons (pe_ix ix_tup (pe_ix ix_tup (pv 1) (pe_ix ix_tup (pv 5) pe_int (fun _ _ => rfl)) (fun _ _ => rfl)) pe_int (fun _ _ => rfl)) pa_nil)) (pg_name (i := 6) scPo.nd rfl (Or.inl rfl))
          (pss_one (ps_set (i := 5) scPo.nd rfl (Or.inl rfl) (pe_op op_catW (pv 5) (pe_ix ix_list (pv 4) (pe_call T.G hr2 (by rfl) T.m T.k T.b .nil pass0 (pa_cons (pv 0) (pa_cons (pe_callB call_len_seq (by rfl) B.len PySem.boot_len (pa_cons (pv 4) pa_nil)) pa_nil))) (fun _ _ => rfl))))))
        (pss_one (ps_expr (pe_bm PySem.F.plainAttrs_list PySem.F.slot_list_append PySem.F.type_list_append mt_append (pv 4) (pa_cons (pe_ifExp (pt_cmpR op_le (pe_callB call_len_seq (by rfl) B.len PySem.boot_len (pa_cons (pv 5) pa_nil)) (pv 3) (nomark _)) (pv 5)
          (pe_call M.G hr (by rfl) M.m M.k M.b .nil pass0 (pa_cons (pv 0) (pa_cons (pv 1) (pa_cons (pe_op op_add pe_int (pe_call T.G hr2 (by rfl) T.m T.k T.b .nil pass0 (pa_cons (pv 0) (pa_cons (pv 3) pa_nil)))) pa_nil))))) pa_nil)))))))
      (pss_one (ps_ret (pv 4)))), ?_⟩
    obtain ⟨n0, hp0⟩ := id hp
    refine ⟨_, rfl, _, rfl, p, a, ks, 1, rfl, hp, ha, hk, Nat.le_refl _, by decide, fun t1 ns1 H1 S1 hp1 ht1 ok1 => ?_⟩
    refine ⟨by show 1 ≤ sizeLine; decide, fun l hl => ?_⟩
    have hlp : l ≠ p := by
      obtain ⟨n1, z⟩ := hp1
      exact (ne_of_none z hl).symm
    have hl0 : H l = none := S1.free hlp hl
    have St1 : Same H1 (upd H1 l (.lst [.ref t1])) := same_new hl
    refine while_by (fun σ H2 => ∃ (rows : List (List Nat)) (o5 o6 : Option V), Sam p H H2 ∧ PotAt H2 p ∧ RowsAt H2 l rows ∧ 1 ≤ rows.length ∧ rows.length ≤ mn ∧ (∀ r ∈ rows, TOk ks r) ∧ σ = [some (.ref p), some (.ref a), some (nV mn), some (nV tp), some (.ref l), o5, o6])
      (fun _ H2 => ml l H2) ⟨[ns1], _, _, S1.over hl0, hp1.over hl, ⟨[t1], upd_same, .cons (St1 _ _ ht1) .nil⟩, Nat.le_refl _, mn1, (fun r hr' => by rw [List.mem_singleton.mp hr']; exact ok1), rfl⟩ ?_ (fun σ H Q Q' h z => mono_ltL h z)
    rintro σ H2 ⟨rows, o5, o6, S2, ⟨n2, hp2⟩, ⟨ts, hl2, hts⟩, hr1, hrm, hok, rfl⟩
    have hlen : ts.length = rows.length := Paired.length hts
    refine ⟨_, rfl, l, _, rfl, .inl (SqL.of hl2), _, rfl, _, _, rfl, rfl, _, rfl, ?_⟩
    refine ite2 (fun hlt => ?_) (fun hlt => ?_)
    · have hlt : (((ts.map V.ref).length : Nat) : Int) < ((mn : Nat) : Int) := of_decide_eq_true hlt
      rw [List.length_map] at hlt
      have ha2 := ha.sam hp0 S2
      obtain ⟨ps, hka, hps⟩ := id ha2
      have hpl : ps.length = ks.length := Paired.length hps
      have h8 := hk.le8
      have hk1 := hk.pos
      obtain ⟨j, hj, ej⟩ := mod_nat (n := n2) (m := ks.length) (by omega)
      refine ⟨_, rfl, _, rfl, a, _, rfl, .inr (SqT.of hka), p, n2, _, rfl, hp2, by rw [List.length_map]; omega, by rw [List.length_map]; exact log_ok (by omega), ?_⟩
      rw [List.length_map, hpl, ej]
      refine ⟨by show 1 ≤ sizeLine; decide, fun r hr0 => ?_⟩
      have S3a : Sam p H (upd H2 p (.lst [.int (n2 / (ks.length : Int))])) := S2.trans Sam.upd
      have hrp : r ≠ p := (ne_of_none (o := .lst [.int (n2 / (ks.length : Int))]) upd_same hr0).symm
      have hrH : H r = none := S3a.free hrp hr0
      have S3 : Sam p H (upd (upd H2 p (.lst [.int (n2 / (ks.length : Int))])) r (.tup [.int (j : Int)])) := S3a.over hrH
      have hp3 : PotAt (upd (upd H2 p (.lst [.int (n2 / (ks.length : Int))])) r (.tup [.int (j : Int)])) p := PotAt.upd ⟨_, upd_same⟩ hrp.symm
      have hr3 : TAt (upd (upd H2 p (.lst [.int (n2 / (ks.length : Int))])) r (.tup [.int (j : Int)])) r [j] := upd_same
      have hrl3 : RowsAt (upd (upd H2 p (.lst [.int (n2 / (ks.length : Int))])) r (.tup [.int (j : Int)])) l rows :=
        (RowsAt.sam ⟨n2, hp2⟩ hlp Sam.upd ⟨ts, hl2, hts⟩).same (same_new hr0)
      generalize upd (upd H2 p (.lst [.int (n2 / (ks.length : Int))])) r (.tup [.int (j : Int)]) = H3 at S3 hp3 hr3 hrl3 ⊢
      obtain ⟨ps', qq, x, e1, e2, e3, e4, e5⟩ := (ha.sam hp0 S3).at hj
      refine ⟨_, rfl, _, rfl, r, _, _, _, rfl, rfl, SqT.of hr3, rfl, a, _, _, _, rfl, rfl, SqT.of e1, e3, qq, _, _, _, rfl, rfl, SqT.of e4, rfl, _, rfl, by omega, by have := arN_le hk j; omega, ?_⟩
      rw [show ((arN ks j : Nat) : Int).toNat = arN ks j by simp]
      have h3 := arN_le hk j
      refine for_range (fun i σ H4 => ∃ (r : Addr) (row : List Nat) (o6 : Option V), Sam p H H4 ∧ PotAt H4 p ∧ RowsAt H4 l rows ∧ TAt H4 r row ∧ Half ks row (arN ks j - i) ∧ row.length ≤ 1 + 30 * i ∧ σ = [some (.ref p), some (.ref a), some (nV mn), some (nV tp), some (.ref l), some (.ref r), o6])
        ⟨r, [j], _, S3, hp3, hrl3, hr3, Half.one hj, (by show 1 ≤ 1 + 30 * 0; decide), rfl⟩ ?_ ?_
      · rintro i σ H4 hi ⟨r, row, o6, S4, ⟨n4, hp4⟩, ⟨ts4, hl4, hts4⟩, hr4, hf, hrl, rfl⟩
        have hlen4 : ts4.length = rows.length := Paired.length hts4
        obtain ⟨m, hm, em⟩ := mod_nat (n := n4) (m := ts4.length) (by omega)
        refine ⟨_, rfl, _, rfl, _, rfl, _, rfl, l, _, rfl, .inl (SqL.of hl4), p, n4, _, rfl, hp4, by rw [List.length_map]; omega, by rw [List.length_map]; exact log_ok (by omega), ?_⟩
        rw [List.length_map, em]
        have S5 : Sam p H4 (upd H4 p (.lst [.int (n4 / (ts4.length : Int))])) := Sam.upd
        have hp5 : PotAt (upd H4 p (.lst [.int (n4 / (ts4.length : Int))])) p := ⟨_, upd_same⟩
        have T5 : Tp H4 (upd H4 p (.lst [.int (n4 / (ts4.length : Int))])) := Tp.sam ⟨n4, hp4⟩ S5
        have hl5 := S5 _ _ hl4 hlp
        generalize upd H4 p (.lst [.int (n4 / (ts4.length : Int))]) = H5 at S5 hp5 T5 hl5 ⊢
        have hm2 : ts4[m]? = some ts4[m] := List.getElem?_eq_getElem hm
        obtain ⟨rw4, hq1, hq2⟩ := paired_at m hts4 hm2
        have okq := hok rw4 (List.mem_of_getElem? hq1)
        have okql := okq.le
        refine ⟨l, _, _, .ref ts4[m], rfl, rfl, SqL.of hl5, atI_nat (by rw [List.getElem?_map, hm2]; rfl), ?_⟩
        refine ⟨r, ts4[m], _, _, rfl, rfl, T5 _ _ hr4, T5 _ _ hq2, by rw [List.length_map, List.length_map]; exact Nat.le_of_lt (small1000 (by omega)), fun p6 H6 S6 hp6 => ?_⟩
        refine ⟨p6, row ++ rw4, _, (S4.trans S5).trans (Sam.of S6), PotAt.same S6 hp5, ⟨ts4, S6 _ _ hl5, paired_mono hts4 fun x y z => S6 _ _ (T5 _ _ z)⟩, ?_, ?_, ?_, rfl⟩
        · show _ = some _
          rw [hp6, List.map_append]
        · have := hf
          rw [show arN ks j - i = (arN ks j - (i + 1)) + 1 by omega] at this
          exact this.add okq
        · rw [List.length_append]; omega
      · rintro σ H4 ⟨r, row, o6, S4, ⟨n4, hp4⟩, ⟨ts4, hl4, hts4⟩, hr4, hf, hrl, rfl⟩
        rw [Nat.sub_self] at hf
        have hlen4 : ts4.length = rows.length := Paired.length hts4
        -- what is put at the end
        have fin : ∀ (u : Addr) (ru : List Nat) (H5 : Hp), Sam p H H5 → PotAt H5 p → H5 l = some (.lst (ts4.map V.ref)) → Paired (TAt H5) ts4 rows → TAt H5 u ru → TOk ks ru →
            ∃ (rows' : List (List Nat)) (o5' o6' : Option V), Sam p H (upd H5 l (.lst (ts4.map V.ref ++ [V.ref u]))) ∧ PotAt (upd H5 l (.lst (ts4.map V.ref ++ [V.ref u]))) p ∧ RowsAt (upd H5 l (.lst (ts4.map V.ref ++ [V.ref u]))) l rows' ∧ 1 ≤ rows'.length ∧ rows'.length ≤ mn ∧ (∀ r ∈ rows', TOk ks r) ∧
              [some (V.ref p), some (V.ref a), some (nV mn), some (nV tp), some (V.ref l), some (V.ref r), o6] = [some (.ref p), some (.ref a), some (nV mn), some (nV tp), some (.ref l), o5', o6'] := fun u ru H5 S5 hp5 hl5 hts5 hu5 oku => by
          have T6 : Tp H5 (upd H5 l (.lst (ts4.map V.ref ++ [V.ref u]))) := Tp.lst hl5
          refine ⟨rows ++ [ru], _, _, S5.over hl0, hp5.upd hlp.symm, ⟨ts4 ++ [u], by rw [upd_same, List.map_append]; rfl, paired_snoc (R := TAt _) (T6 _ _ hu5) (paired_mono hts5 fun x y z => T6 _ _ z)⟩, by rw [List.length_append, List.length_singleton]; omega, by rw [List.length_append, List.length_singleton]; omega, fun x hx => ?_, rfl⟩
          rcases List.mem_append.mp hx with z | z
          · exact hok x z
          · rw [List.mem_singleton.mp z]; exact oku
        have meas : ∀ (u : Addr) (H5 : Hp), ml l (upd H5 l (.lst (ts4.map V.ref ++ [V.ref u]))) < ml l H2 := fun u H5 => by
          unfold ml
          rw [upd_same, hl2]
          show 100 - (ts4.map V.ref ++ [V.ref u]).length < 100 - (ts.map V.ref).length
          rw [List.length_append, List.length_map, List.length_map, List.length_singleton]
          omega
        refine ⟨_, rfl, .inl ⟨rfl, _, SqL.of hl4⟩, _, rfl, r, _, rfl, .inr (SqT.of hr4), _, rfl, _, _, rfl, rfl, _, rfl, ?_⟩
        refine ite2 (fun hle => ?_) (fun _ => ?_)
        · have hle : (((row.map nV).length : Nat) : Int) ≤ ((tp : Nat) : Int) := of_decide_eq_true hle
          rw [List.length_map] at hle
          refine ⟨_, rfl, l, _, _, rfl, rfl, hl4, by rw [List.length_map]; exact small1000 (by omega), ?_⟩
          exact ⟨fin r row H4 S4 ⟨n4, hp4⟩ hl4 hts4 hr4 (hf.done (by omega)), meas r H4⟩
        · obtain ⟨m, hm, em⟩ := mod_nat (n := n4) (m := tp) (by omega)
          refine ⟨_, rfl, _, rfl, _, rfl, _, rfl, p, n4, _, rfl, hp4, by omega, log_ok (by omega), _, _, rfl, rfl, ?_⟩
          have e1m : (1 : Int) + n4 % (tp : Int) = ((1 + m : Nat) : Int) := by rw [em]; omega
          have S5 : Sam p H4 (upd H4 p (.lst [.int (n4 / (tp : Int))])) := Sam.upd
          have hp5 : PotAt (upd H4 p (.lst [.int (n4 / (tp : Int))])) p := ⟨_, upd_same⟩
          have T5 : Tp H4 (upd H4 p (.lst [.int (n4 / (tp : Int))])) := Tp.sam ⟨n4, hp4⟩ S5
          have hl5 := S5 _ _ hl4 hlp
          generalize upd H4 p (.lst [.int (n4 / (tp : Int))]) = H5 at S5 hp5 T5 hl5 ⊢
          refine ⟨p, a, ks, 1 + m, (by show [V.ref p, V.ref a, V.int (1 + n4 % (tp : Int))] = _; rw [e1m]), hp5, ha.sam hp0 (S4.trans S5), hk, by omega, by omega, fun u ru H6 S6 hp6 hu6 oku => ?_⟩
          refine ⟨l, _, _, rfl, rfl, S6 _ _ hl5 hlp, by rw [List.length_map]; exact small1000 (by omega), ?_⟩
          exact ⟨fin u ru H6 ((S4.trans S5).trans S6) hp6 (S6 _ _ hl5 hlp) (paired_mono hts4 fun x y z => Tp.sam hp5 S6 _ _ (T5 _ _ z)) hu6 oku, meas u H6⟩
    · have hge : ¬ (((ts.map V.ref).length : Nat) : Int) < ((mn : Nat) : Int) := fun z => hlt (decide_eq_true z)
      exact ⟨_, rfl, q l rows H2 S2 ⟨n2, hp2⟩ hl0 hlp ⟨ts, hl2, hts⟩ (by omega) hok⟩
end
end K3


set_option Elab.async false
set_option linter.all false
set_option maxRecDepth 100000
set_option maxHeartbeats 1000000
namespace L2
open PySem PySem.Spec PyProof.Rows
section
variable {X : Cx} {e st : Expr} {te ts : TE} {pos p2 : Pos}
/-- l[::-1] of a list -/
def tRevL (te ts : TE) : TE := fun σ H Q => te σ H fun x H1 => ts σ H1 fun y H2 => ∃ a xs, x = .ref a ∧ y = .int (-1) ∧ H2 a = some (.lst xs) ∧ ∀ p, H2 p = none → Q (.ref p) (upd H2 p (.lst xs.reverse))
theorem pe_revL (he : PE X e te) (hst : PE X st ts) : PE X (.Subscript e (.Slice none none (some st) p2) pos) (tRevL te ts) := by
  intro pins s σ H Q I h
  refine Subscript_ (thn (he pins s σ H _ I h) fun v s1 ⟨x, H1, I1, r1, q1⟩ => ?_)
  refine wpAny_Slice ?_
  rw [evalPart_none]
  refine wpAny_pure ?_
  refine wpAny_pure ?_
  rw [evalPart_some]
  refine thn (hst pins s1 σ H1 _ I1 q1) fun vk s3 ⟨y, H3, I3, r3, a, xs, ex, ey, hx, q3⟩ => ?_
  subst ex ey
  obtain ⟨tk, rfl⟩ := r3
  obtain rfl : v = Value.ref a := r1
  have I4 : Inv X pins σ H3 { s3 with heap := s3.heap.push { cls := .type "slice", data := .fields #[.none, .none, .int (-1) tk] } } := I3.kept (t' := s3.toks) fun b ob q => Heap.get?_push_of_some _ q
  obtain ⟨its, rv, ht, hz⟩ := I4.list (SqL.of (K := X.K) hx)
  have hlen := rv.length
  show wpAny (model X.prog X.w) X.A (subscriptTail e (.Slice none none (some st) p2) (.ref a) (.ref s3.heap.objs.size)) (EP X pins σ Q) X.xe { s3 with heap := s3.heap.push { cls := .type "slice", data := .fields #[.none, .none, .int (-1) tk] } }
  refine tail_any (ops := [.ref a, .ref s3.heap.objs.size]) ht.isList.typeIs slot_list_getitem.lookup ?_ (by with_unfolding_all rfl)
  refine wpAny_getItem_list_slice ht.isList (Heap.IsSliceOf.new ..) .none .none (IsPart.int _ _) (by decide) ?_ (by rw [List.size_toArray] <;> omega)
  rw [PySem.W.krv_pick]
  have hf := I4.hok.fresh (Nat.le_refl _)
  refine ⟨.ref _, _, I4.laid (t' := s3.toks) (fun b u e => Heap.get?_push_of_some _ e) (Nat.le_refl _) ?_, rfl, q3 _ hf⟩
  exact ⟨by rw [List.length_reverse]; exact hz, its.reverse, 0, Vals.reverse rv, Heap.get?_push_size _ rfl⟩
end
end L2


set_option Elab.async false
set_option linter.all false
set_option maxRecDepth 100000
set_option maxHeartbeats 1600000
namespace K3
open PySem L2 LN
/-! ### how long the things are when shown -/
structure Sz (d : PyData) (w k : Nat) : Prop where
  n : d.hasDict = false
  s : d.showable = true
  l : d.leavesShort 42 = true
  w : d.weight ≤ w
  d : d.depth ≤ k
structure SzA (ds : List PyData) (w k : Nat) : Prop where
  s : PyData.showableAll ds = true
  l : PyData.leavesShortAll 42 ds = true
  w : PyData.weightAll ds ≤ w
  d : PyData.depthAll ds ≤ k
  n : PyData.hasDictAll ds = false
theorem Sz.le {d : PyData} {w w' k k' : Nat} (h : Sz d w k) (hw : w ≤ w') (hk : k ≤ k') : Sz d w' k' := ⟨h.n, h.s, h.l, Nat.le_trans h.w hw, Nat.le_trans h.d hk⟩
theorem sz_all {w k : Nat} : ∀ {ds : List PyData}, (∀ d ∈ ds, Sz d w k) → SzA ds ((w + 1) * ds.length) k
  | [], _ => ⟨by simp [PyData.showableAll], by simp [PyData.leavesShortAll], by simp [PyData.weightAll], by simp [PyData.depthAll], by simp [PyData.hasDictAll]⟩
  | d :: ds, h => by
    have h1 := h d (List.mem_cons_self ..)
    have h2 := sz_all (ds := ds) fun e he => h e (List.mem_cons_of_mem _ he)
    have w1 := h1.w
    have w2 := h2.w
    have d1 := h1.d
    have d2 := h2.d
    refine ⟨?_, ?_, ?_, ?_, ?_⟩
    · simp only [PyData.showableAll, h1.s, h2.s, Bool.and_self]
    · simp only [PyData.leavesShortAll, h1.l, h2.l, Bool.and_self]
    · simp only [PyData.weightAll, List.length_cons]
      rw [Nat.mul_succ]
      omega
    · simp only [PyData.depthAll]
      omega
    · simp only [PyData.hasDictAll, h1.n, h2.n, Bool.or_self]
theorem sz_t {ds : List PyData} {w k n : Nat} (h : ∀ d ∈ ds, Sz d w k) (hn : ds.length ≤ n) : Sz (.tuple ds) ((w + 1) * n) (k + 1) := by
  have h := sz_all h
  exact ⟨by simpa only [PyData.hasDict] using h.n, by simpa only [PyData.showable] using h.s, by simpa only [PyData.leavesShort] using h.l, by have := h.w; simp only [PyData.weight]; exact Nat.le_trans this (Nat.mul_le_mul_left _ hn), by have := h.d; simp only [PyData.depth]; omega⟩
theorem sz_ls {ds : List PyData} {w k n : Nat} (h : ∀ d ∈ ds, Sz d w k) (hn : ds.length ≤ n) : Sz (.list ds) ((w + 1) * n) (k + 1) := by
  have h := sz_all h
  exact ⟨by simpa only [PyData.hasDict] using h.n, by simpa only [PyData.showable] using h.s, by simpa only [PyData.leavesShort] using h.l, by have := h.w; simp only [PyData.weight]; exact Nat.le_trans this (Nat.mul_le_mul_left _ hn), by have := h.d; simp only [PyData.depth]; omega⟩
theorem sz_nat : ∀ n : Nat, n < 100 → (PyData.int (n : Int)).showable = true ∧ (PyData.int (n : Int)).leavesShort 42 = true ∧ (PyData.int (n : Int)).weight ≤ 20 ∧ (PyData.int (n : Int)).depth ≤ 1 ∧ (PyData.int (n : Int)).hasDict = false := by decide +kernel
theorem sz_n {n : Nat} (h : n < 100) : Sz (.int (n : Int)) 20 1 := let z := sz_nat n h; ⟨z.2.2.2.2, z.1, z.2.1, z.2.2.1, z.2.2.2.1⟩
theorem sz_row {ks : KS} {r : List Nat} (hk : KOk ks) (ok : TOk ks r) : Sz (.tuple (natD r)) 630 2 := sz_t (n := 30) (fun d hd => by
  obtain ⟨n, hn, rfl⟩ := List.mem_map.mp hd
  have := ok.lt n hn
  have := hk.le8
  exact sz_n (n := n) (by omega)) (by rw [List.length_map]; exact ok.le)
theorem sz_rows {ks : KS} {rows : List (List Nat)} (hk : KOk ks) (ok : ∀ r ∈ rows, TOk ks r) (hl : rows.length ≤ 40) : Sz (.list (rowsD rows)) 25240 3 := (sz_ls (n := 40) (fun d hd => by
  obtain ⟨r, hr, rfl⟩ := List.mem_map.mp hd
  exact sz_row hk (ok r hr)) (by unfold rowsD; rw [List.length_map]; exact hl)).le (by decide) (by decide)
theorem sz_len {d : PyData} {k : Nat} (h : Sz d 100000 k) : d.shown.length ≤ sizeLine := by
  have e := PyData.shown_le 42 (by decide) d h.l
  have := h.w
  rw [sizeLine_eq]
  omega
theorem repr_sz {K : PySem.W.Frag} {H : Hp} {v : V} {d : PyData} {k : Nat} {Q : VK} (dp : Dp K H v d) (h : Sz d 100000 k) (hk : k ≤ 60) (hd : PyProof.Rows.isDisplay d = true) (q : Q (.str d.shown) H) : rRepr K [v] H Q :=
  ⟨v, d, rfl, dp, h.s, h.n, hd, Nat.le_trans h.d hk, sz_len h, q⟩
/-- depth is no more than length -/
theorem mx_le {f : List Nat → Nat} {m : Nat} : ∀ {L : List (List Nat)}, (∀ r ∈ L, f r ≤ m) → mx f L ≤ m
  | [], _ => Nat.zero_le _
  | r :: L, h => by
    rw [mx_cons]
    have := h r (.head _)
    have := mx_le (L := L) fun q hq => h q (.tail _ hq)
    omega
theorem dpR_le {ks : KS} : ∀ (f : Nat) (r : List Nat), TOk ks r → dpR ks f r ≤ r.length
  | 0, r, _ => Nat.zero_le _
  | f + 1, r, ok => by
    have h0 := ok.pos
    show 1 + mx (dpR ks f) (partsF ks r) ≤ _
    have := mx_le (f := dpR ks f) (m := r.length - 1) (L := partsF ks r) fun q hq => by
      obtain ⟨o, l⟩ := parts_mem ok hq
      have := dpR_le f q o
      omega
    omega
theorem dp_le {ks : KS} {r : List Nat} (ok : TOk ks r) : dpF ks r ≤ 30 := Nat.le_trans (dpR_le _ r ok) ok.le
theorem nd_len {α : Type} [DecidableEq α] : ∀ {l m : List α}, l.Nodup → (∀ x ∈ l, x ∈ m) → l.length ≤ m.length
  | [], m, _, _ => Nat.zero_le _
  | x :: l, m, h, hs => by
    have hx := hs x (.head _)
    have := nd_len (l := l) (m := m.erase x) (List.nodup_cons.mp h).2 fun y hy => by
      have hne : y ≠ x := fun e => (List.nodup_cons.mp h).1 (e ▸ hy)
      exact (List.mem_erase_of_ne hne).mpr (hs y (.tail _ hy))
    rw [List.length_erase_of_mem hx] at this
    have := List.length_pos_of_mem hx
    rw [List.length_cons]
    omega
theorem inn_len {ks : KS} {ns : List Nat} {rows : List (List Nat)} (ok : TOk ks ns) (h : InnF ks ns rows) : rows.length ≤ 30 ∧ ∀ r ∈ rows, TOk ks r := by
  refine ⟨Nat.le_trans (nd_len (m := (List.range ns.length).map (subF ks ns)) h.nd fun r hr => ?_) (by rw [List.length_map, List.length_range]; exact ok.le), fun r hr => ?_⟩
  · obtain ⟨i, hi, rfl⟩ := (h.mem r).mp hr
    exact List.mem_map.mpr ⟨i, List.mem_range.mpr hi, rfl⟩
  · obtain ⟨i, hi, rfl⟩ := (h.mem r).mp hr
    exact sub_ok ok hi
/-- what is told of a term -/
noncomputable def dueD (ks : KS) (ns : List Nat) (inn : List (List Nat)) : PyData := .list [.list (rowsD (partsF ks ns)), .list (rowsD inn), .int (dpF ks ns : Nat)]
theorem sz_due {ks : KS} {ns : List Nat} {inn : List (List Nat)} (hk : KOk ks) (ok : TOk ks ns) (h : InnF ks ns inn) : Sz (dueD ks ns inn) 100000 4 := by
  obtain ⟨h1, h2⟩ := inn_len ok h
  refine (sz_ls (n := 3) (w := 25240) (k := 3) (fun d hd => ?_) (by simp)).le (by decide) (by decide)
  simp only [List.mem_cons, List.not_mem_nil, or_false] at hd
  rcases hd with rfl | rfl | rfl
  · exact sz_rows hk (fun r hr => (parts_mem ok hr).1) (by have := parts_len hk ns; omega)
  · exact sz_rows hk h2 (by omega)
  · exact (sz_n (by have := dp_le ok; omega)).le (by decide) (by decide)
theorem due_dp {K : PySem.W.Frag} {H : Hp} {l l0 l1 : Addr} {ks : KS} {ns : List Nat} {inn : List (List Nat)} (h : H l = some (.lst [.ref l0, .ref l1, nV (dpF ks ns)])) (h0 : RowsAt H l0 (partsF ks ns)) (h1 : RowsAt H l1 inn) : Dp K H (.ref l) (dueD ks ns inn) :=
  .lst (SqL.of h) (.cons h0.dp (.cons h1.dp (.cons (.int _) .nil)))
end K3


set_option Elab.async false
set_option linter.all false
set_option maxRecDepth 100000
set_option maxHeartbeats 1600000
namespace K3
open PySem L2 LN
abbrev sLaw : Stmt := top 39
def spLaw (K : PySem.W.Frag) : Sp := fun vs H Q _ => ∃ (a : Addr) (ns : List Int), vs = [.ref a] ∧ SqL K H a (ns.map V.int) ∧ ns.length ≤ 63 ∧ ∀ H', Q (.bl true) H'
abbrev NL : List Str := ["_law_script", "_law_k", "_law_pot_here", "_law_kinds_here", "_law_rows", "_law_term_here", "_law_due", "_law_turn", "_law_told", "_law_kept", "_law_some", "_law_held"]
theorem scL : FnScope NL ["_law_script"] (defScope sLaw) := ⟨rfl, rfl, rfl, by decide +kernel, rfl, by decide +kernel, by decide +kernel⟩
def gO {α : Type} : List α → List α → List α
  | us, [w] => us ++ [w]
  | _, _ => []
structure KnownO (P : Program) (w : World) (K : PySem.W.Frag) (mg : Str → Option Value) (base : Heap) (f : Addr) (fd : FuncData) : Prop extends Known P w K mg base CX0 6 "in_order" f fd ["signs", "terms"] spOrd where
  kb : KBinds K fd ["signs", "terms"] ["terms"] gO gO
structure Ok (P : Program) (w : World) (K : PySem.W.Frag) (mg : Str → Option Value) (base : Heap) (fa : Nat → Addr) (da : Nat → FuncData) : Prop where
  C : Known P w K mg base CX0 2 "_law_cell_at" (fa 26) (da 26) ["_law_script", "_law_k"] (spCell K)
  Po : Known P w K mg base CX0 2 "_law_pot" (fa 27) (da 27) ["_law_cell"] spPot
  T : Known P w K mg base CX0 2 "_law_take" (fa 28) (da 28) ["_law_pot_here", "_law_far"] spTake
  Mi : Known P w K mg base CX0 3 "_law_mixed" (fa 29) (da 29) ["_law_pot_here", "_law_some"] spMix
  Ki : Known P w K mg base CX0 4 "_law_kinds" (fa 31) (da 31) ["_law_pot_here"] spKinds
  M : Known P w K mg base CX0 3 "_law_term" (fa 32) (da 32) ["_law_pot_here", "_law_kinds_here", "_law_top"] spTerm
  Be : Known P w K mg base CX0 3 "_law_below" (fa 34) (da 34) ["_law_kinds_here", "_law_row"] spSplit
  Ol : Known P w K mg base CX0 2 "_law_ordered" (fa 35) (da 35) ["_law_rows"] spOrL
  Il : Known P w K mg base CX0 3 "_law_inner" (fa 36) (da 36) ["_law_kinds_here", "_law_row"] spInner
  Pl : Known P w K mg base CX0 4 "_law_pool" (fa 37) (da 37) ["_law_pot_here", "_law_kinds_here", "_law_many", "_law_top"] spPool
  Dl : Known P w K mg base CX0 4 "_law_depth" (fa 38) (da 38) ["_law_kinds_here", "_law_row"] spDepth
  Pa : Known P w K mg base CX0 6 "parts_of" (fa 19) (da 19) ["signs", "term"] spSplit
  In : Known P w K mg base CX0 6 "inner" (fa 22) (da 22) ["signs", "term"] spInner
  De : Known P w K mg base CX0 6 "depth" (fa 23) (da 23) ["signs", "term"] spDepth
  Or : KnownO P w K mg base (fa 24) (da 24)
  B : Blt mg
  hL : mg "list" = none
section
variable {P : Program} {w : World} {K : PySem.W.Frag} {mg : Str → Option Value} {base : Heap} {fa : Nat → Addr} {da : Nat → FuncData}
variable {f : Addr} {cdv : Value} {A : Around} {outer : List Env} {s : Shared} {H0 : Hp} {E0' : XK}
abbrev XL (P : Program) (w : World) (K : PySem.W.Frag) (mg : Str → Option Value) (base : Heap) (f : Addr) (cdv : Value) (A : Around) (outer : List Env) (s : Shared) (H0 : Hp) (E0' : XK) : Cx := (cxOf CX0 P w K mg base NL "law" (defScope sLaw) f cdv A outer s H0 E0').nox
def forB : Stmt → List Stmt
  | .For _ _ b _ _ => b
  | _ => []
def lst (i : Nat) : Stmt := (defBody sLaw).getD i (.Pass ⟨0, 0, 0, 0⟩)
theorem lB_eq : defBody sLaw = [lst 0, lst 1] := by kernel_rfl
def kB : List Stmt := forB (lst 0)
def kst' (i : Nat) : Stmt := kB.getD i (.Pass ⟨0, 0, 0, 0⟩)
theorem kB_eq : kB = [kst' 0, kst' 1, kst' 2, kst' 3, kst' 4, kst' 5, kst' 6, kst' 7] := by kernel_rfl
def teB : List Stmt := forB (kst' 4)
def tst (i : Nat) : Stmt := teB.getD i (.Pass ⟨0, 0, 0, 0⟩)
theorem teB_eq : teB = [tst 0, tst 1] := by kernel_rfl
def tuB : List Stmt := forB (tst 1)
def ust (i : Nat) : Stmt := tuB.getD i (.Pass ⟨0, 0, 0, 0⟩)
theorem tuB_eq : tuB = [ust 0, ust 1, ust 2, ust 3] := by kernel_rfl
def soB : List Stmt := forB (kst' 6)
def sst (i : Nat) : Stmt := soB.getD i (.Pass ⟨0, 0, 0, 0⟩)
theorem soB_eq : soB = [sst 0, sst 1, sst 2, sst 3, sst 4] := by kernel_rfl
theorem pss_of {X : Cx} {b b' : List Stmt} {t : TS} (e : b = b') (h : PSs X b' t) : PSs X b t := e ▸ h
theorem tu_ok (o : Ok P w K mg base fa da) (hr : Room 6 (XL P w K mg base f cdv A outer s H0 E0').A) :
    ∃ t, PSs (XL P w K mg base f cdv A outer s H0 E0') tuB t ∧ ∀ (D : Ends) (H : Hp) (ka t' dl d0 d1 : Addr) (ks : KS) (ns : List Nat) (inn : List (List Nat)) (v0 v1 v2 v4 v7 v8 v9 v10 v11 : Option V), KAt H ka ks → KOk ks → TAt H t' ns → TOk ks ns →
      H dl = some (.lst [.ref d0, .ref d1, nV (dpF ks ns)]) → RowsAt H d0 (partsF ks ns) → RowsAt H d1 inn → InnF ks ns inn →
      (∀ (v8 : Option V) (H' : Hp), Same H H' → D.nx [v0, v1, v2, some (.ref ka), v4, some (.ref t'), some (.ref dl), v7, v8, v9, v10, v11] H') →
      t D [v0, v1, v2, some (.ref ka), v4, some (.ref t'), some (.ref dl), v7, v8, v9, v10, v11] H := by
  refine ⟨_, pss_of tuB_eq (pss_cons (ps_set (i := 8) scL.nd rfl (Or.inl rfl) (pe_lst (pa_cons (pe_call o.Pa.G hr (by rfl) o.Pa.m o.Pa.k o.Pa.b .nil pass0 (pa_cons (pv 3) (pa_cons (pv 5) pa_nil))) (pa_cons (pe_call o.In.G hr (by rfl) o.In.m o.In.k o.In.b .nil pass0 (pa_cons (pv 3) (pa_cons (pv 5) pa_nil)))
      (pa_cons (pe_call o.De.G hr (by rfl) o.De.m o.De.k o.De.b .nil pass0 (pa_cons (pv 3) (pa_cons (pv 5) pa_nil))) pa_nil)))))
    (pss_cons (ps_if (pt_cmpR op_ne (pe_callB (call_repr hr) (by rfl) o.B.repr (by decide +kernel) (pa_cons (pv 8) pa_nil)) (pe_callB (call_repr hr) (by rfl) o.B.repr (by decide +kernel) (pa_cons (pv 6) pa_nil)) (nomark _)) (pss_one (ps_ret pe_bl)) pss_nil)
    (pss_cons (ps_expr (pe_bm PySem.F.plainAttrs_list PySem.F.slot_list_append PySem.F.type_list_append mt_append (pe_ix ix_list (pv 8) pe_int (fun _ _ => rfl)) (pa_cons pe_non pa_nil)))
    (pss_one (ps_expr (pe_bm0 PySem.F.plainAttrs_list PySem.F.slot_list_reverse PySem.F.type_list_reverse mt_reverse (pe_ix ix_list (pv 8) pe_int (fun _ _ => rfl)))))))), ?_⟩
  intro D H ka t' dl d0 d1 ks ns inn v0 v1 v2 v4 v7 v8 v9 v10 v11 ha hk ht ok hdl hd0 hd1 hin q
  refine ⟨_, rfl, _, rfl, ka, t', ks, ns, rfl, ha, hk, ht, ok, fun l0 H1 S1 hl0 hr0 => ?_⟩
  refine ⟨_, rfl, _, rfl, ka, t', ks, ns, rfl, ha.same S1, hk, ht.same S1, ok, fun l1 inn2 H2 S2 hl1 hr1 hin2 => ?_⟩
  have S02 := S1.trans S2
  refine ⟨_, rfl, _, rfl, ka, t', ks, ns, rfl, ha.same S02, hk, ht.same S02, ok, fun H3 S3 => ?_⟩
  have S03 := S02.trans S3
  obtain rfl := InnF.one hin hin2
  refine ⟨by show 3 ≤ sizeLine; decide, fun tl htl => ?_⟩
  have S4 : Same H3 (upd H3 tl (.lst [.ref l0, .ref l1, nV (dpF ks ns)])) := same_new htl
  have S04 := S03.trans S4
  have hr04 := hr0.same (S2.trans (S3.trans S4))
  have hr14 := hr1.same (S3.trans S4)
  have htl4 : (upd H3 tl (.lst [.ref l0, .ref l1, nV (dpF ks ns)])) tl = some (.lst [.ref l0, .ref l1, nV (dpF ks ns)]) := upd_same
  have htl0 : H tl = none := free_of S03 htl
  generalize upd H3 tl (.lst [.ref l0, .ref l1, nV (dpF ks ns)]) = H4 at S4 S04 hr04 hr14 htl4 ⊢
  have sz := sz_due hk ok hin
  refine ⟨_, rfl, ?_⟩
  dsimp only [tNil]
  refine repr_sz (due_dp htl4 hr04 hr14) sz (by decide) rfl ?_
  refine ⟨_, rfl, ?_⟩
  dsimp only [tNil]
  refine repr_sz (due_dp (S04 _ _ hdl) (hd0.same S04) (hd1.same S04)) sz (by decide) rfl ⟨rfl, _, rfl, iteNS rfl ?_⟩
  obtain ⟨ts0, h04, _⟩ := hr04
  obtain ⟨ts1, h14, hts1⟩ := hr14
  have n0 : tl ≠ l0 := fun z => by
    rw [z, h04] at htl4
    have := HO.lst.inj (Option.some.inj htl4)
    have e := congrArg (fun x => x.getD 2 .non) this
    match ts0, e with
    | [], e => cases e
    | [_], e => cases e
    | [_, _], e => cases e
    | _ :: _ :: _ :: _, e => cases e
  have n1 : tl ≠ l1 := fun z => by
    rw [z, h14] at htl4
    have := HO.lst.inj (Option.some.inj htl4)
    have e := congrArg (fun x => x.getD 2 .non) this
    match ts1, e with
    | [], e => cases e
    | [_], e => cases e
    | [_, _], e => cases e
    | _ :: _ :: _ :: _, e => cases e
  have n01 : l1 ≠ l0 := fun z => by
    rw [z] at hl1
    obtain ⟨_, z1, _⟩ := hr0
    rw [hl1] at z1
    cases z1
  refine ⟨_, rfl, tl, _, _, .ref l0, rfl, rfl, SqL.of htl4, rfl, .inl ⟨rfl, _, SqL.of h04⟩, l0, _, _, rfl, rfl, h04, ?_, ?_⟩
  · have := parts_len hk ns
    have e : ts0.length = (partsF ks ns).length := Paired.length (by assumption)
    rw [List.length_map]
    exact small1000 (by omega)
  refine ⟨_, rfl, tl, _, _, .ref l1, rfl, rfl, SqL.of (by rw [upd_ne n0]; exact htl4), rfl, .inl ⟨rfl, _, SqL.of (by rw [upd_ne n01]; exact h14)⟩, l1, _, rfl, rfl, (by rw [upd_ne n01]; exact h14), ?_⟩
  exact q _ _ ((S04.over hl0).over (free_of S1 hl1))
end
end K3


set_option Elab.async false
set_option linter.all false
set_option maxRecDepth 100000
set_option maxHeartbeats 1600000
namespace K3
open PySem L2 LN
section
variable {P : Program} {w : World} {K : PySem.W.Frag} {mg : Str → Option Value} {base : Heap} {fa : Nat → Addr} {da : Nat → FuncData}
variable {f : Addr} {cdv : Value} {A : Around} {outer : List Env} {s : Shared} {H0 : Hp} {E0' : XK}
theorem te_ok (o : Ok P w K mg base fa da) (hr : Room 6 (XL P w K mg base f cdv A outer s H0 E0').A) :
    ∃ t, PSs (XL P w K mg base f cdv A outer s H0 E0') teB t ∧ ∀ (D : Ends) (H : Hp) (ka t' : Addr) (ks : KS) (ns : List Nat) (v0 v1 v2 v4 v6 v7 v8 v9 v10 v11 : Option V), KAt H ka ks → KOk ks → TAt H t' ns → TOk ks ns →
      (∀ (v6 v7 v8 : Option V) (H' : Hp), Same H H' → D.nx [v0, v1, v2, some (.ref ka), v4, some (.ref t'), v6, v7, v8, v9, v10, v11] H') →
      t D [v0, v1, v2, some (.ref ka), v4, some (.ref t'), v6, v7, v8, v9, v10, v11] H := by
  obtain ⟨tb, pb, rb⟩ := tu_ok (f := f) (cdv := cdv) (A := A) (outer := outer) (s := s) (H0 := H0) (E0' := E0') o hr
  refine ⟨_, pss_of teB_eq (pss_cons (ps_set (i := 6) scL.nd rfl (Or.inl rfl) (pe_lst (pa_cons (pe_call o.Be.G (hr.mono (by decide)) (by rfl) o.Be.m o.Be.k o.Be.b .nil pass0 (pa_cons (pv 3) (pa_cons (pv 5) pa_nil))) (pa_cons (pe_call o.Il.G (hr.mono (by decide)) (by rfl) o.Il.m o.Il.k o.Il.b .nil pass0 (pa_cons (pv 3) (pa_cons (pv 5) pa_nil)))
      (pa_cons (pe_call o.Dl.G (hr.mono (by decide)) (by rfl) o.Dl.m o.Dl.k o.Dl.b .nil pass0 (pa_cons (pv 3) (pa_cons (pv 5) pa_nil))) pa_nil)))))
    (pss_one (ps_for PassesOwn.never rfl (pi_range1 (by rfl) o.B.range (pa_cons pe_int pa_nil)) (pg_name (i := 7) scL.nd rfl (Or.inl rfl)) pb))), ?_⟩
  clear pb
  intro D H ka t' ks ns v0 v1 v2 v4 v6 v7 v8 v9 v10 v11 ha hk ht ok q
  refine ⟨_, rfl, _, rfl, ka, t', ks, ns, rfl, ha, hk, ht, ok, fun l0 H1 S1 hl0 hr0 => ?_⟩
  refine ⟨_, rfl, _, rfl, ka, t', ks, ns, rfl, ha.same S1, hk, ht.same S1, ok, fun l1 inn H2 S2 hl1 hr1 hin => ?_⟩
  have S02 := S1.trans S2
  refine ⟨_, rfl, _, rfl, ka, t', ks, ns, rfl, ha.same S02, hk, ht.same S02, ok, fun H3 S3 => ?_⟩
  have S03 := S02.trans S3
  refine ⟨by show 3 ≤ sizeLine; decide, fun dl hdl => ?_⟩
  have S4 : Same H3 (upd H3 dl (.lst [.ref l0, .ref l1, nV (dpF ks ns)])) := same_new hdl
  have S04 := S03.trans S4
  have hr04 := hr0.same (S2.trans (S3.trans S4))
  have hr14 := hr1.same (S3.trans S4)
  have hdl4 : (upd H3 dl (.lst [.ref l0, .ref l1, nV (dpF ks ns)])) dl = some (.lst [.ref l0, .ref l1, nV (dpF ks ns)]) := upd_same
  generalize upd H3 dl (.lst [.ref l0, .ref l1, nV (dpF ks ns)]) = H4 at S4 S04 hr04 hr14 hdl4 ⊢
  refine ⟨2, rfl, by decide, by decide, for_range (n := 2) (fun j σ H5 => Same H4 H5 ∧ ∃ v7 v8 : Option V, σ = [v0, v1, v2, some (.ref ka), v4, some (.ref t'), some (.ref dl), v7, v8, v9, v10, v11]) ⟨Same.refl _, _, _, rfl⟩ ?_ ?_⟩
  · rintro j σ H5 hj ⟨S5, v7, v8, rfl⟩
    have S05 := S04.trans S5
    refine rb _ H5 ka t' dl l0 l1 ks ns inn v0 v1 v2 v4 _ v8 v9 v10 v11 (ha.same S05) hk (ht.same S05) ok (S5 _ _ hdl4) (hr04.same S5) (hr14.same S5) hin fun v8 H' S' => ?_
    exact ⟨S5.trans S', _, _, rfl⟩
  · rintro σ H5 ⟨S5, v7, v8, rfl⟩
    exact q _ _ _ _ (S04.trans S5)
theorem terms_ok (o : Ok P w K mg base fa da) (hr : Room 6 (XL P w K mg base f cdv A outer s H0 E0').A) :
    ∃ t, PS (XL P w K mg base f cdv A outer s H0 E0') (kst' 4) t ∧ ∀ (D : Ends) (H : Hp) (ka rl : Addr) (ks : KS) (rows : List (List Nat)) (v0 v1 v2 v5 v6 v7 v8 v9 v10 v11 : Option V), KAt H ka ks → KOk ks → RowsAt H rl rows → (∀ r ∈ rows, TOk ks r) →
      (∀ (v5 v6 v7 v8 : Option V) (H' : Hp), Same H H' → D.nx [v0, v1, v2, some (.ref ka), some (.ref rl), v5, v6, v7, v8, v9, v10, v11] H') →
      t D [v0, v1, v2, some (.ref ka), some (.ref rl), v5, v6, v7, v8, v9, v10, v11] H := by
  obtain ⟨tb, pb, rb⟩ := te_ok (f := f) (cdv := cdv) (A := A) (outer := outer) (s := s) (H0 := H0) (E0' := E0') o hr
  refine ⟨_, ps_for PassesOwn.never rfl (pi_list (pv 4)) (pg_name (i := 5) scL.nd rfl (Or.inl rfl)) pb, ?_⟩
  clear pb
  intro D H ka rl ks rows v0 v1 v2 v5 v6 v7 v8 v9 v10 v11 ha hk ⟨ts, hl, hts⟩ hok q
  refine ⟨_, rfl, rl, rfl, ⟨_, SqL.of hl⟩, ?_⟩
  refine for_list (K := K) (xs := ts.map V.ref) (fun j σ H2 => Same H H2 ∧ ∃ v5 v6 v7 v8 : Option V, σ = [v0, v1, v2, some (.ref ka), some (.ref rl), v5, v6, v7, v8, v9, v10, v11]) ⟨Same.refl _, _, _, _, _, rfl⟩ (fun j σ H2 _ h => SqL.of (h.1 _ _ hl)) ?_ ?_
  · rintro j x σ H2 hx ⟨S2, v5, v6, v7, v8, rfl⟩
    rw [List.getElem?_map] at hx
    obtain ⟨t', ht, rfl⟩ := Option.map_eq_some_iff.mp hx
    obtain ⟨r, hr1, hr2⟩ := paired_at j hts ht
    refine rb _ H2 ka t' ks r v0 v1 v2 _ v6 v7 v8 v9 v10 v11 (ha.same S2) hk (S2 _ _ hr2) (hok r (List.mem_of_getElem? hr1)) fun v6 v7 v8 H' S' => ?_
    exact ⟨S2.trans S', _, _, _, _, rfl⟩
  · rintro σ H2 ⟨S2, v5, v6, v7, v8, rfl⟩
    exact q _ _ _ _ _ S2
/-- one of the lists in its order -/
theorem so_ok (o : Ok P w K mg base fa da) (hr : Room 6 (XL P w K mg base f cdv A outer s H0 E0').A) :
    ∃ t, PSs (XL P w K mg base f cdv A outer s H0 E0') soB t ∧ ∀ (D : Ends) (H : Hp) (ka sl : Addr) (ks : KS) (rows : List (List Nat)) (v0 v1 v2 v4 v5 v6 v7 v8 v9 v11 : Option V), KAt H ka ks → KOk ks → RowsAt H sl rows → (∀ r ∈ rows, TOk ks r) → rows.length ≤ 40 →
      (∀ (v8 v11 : Option V) (H' : Hp), Same H H' → D.nx [v0, v1, v2, some (.ref ka), v4, v5, v6, v7, v8, v9, some (.ref sl), v11] H') →
      t D [v0, v1, v2, some (.ref ka), v4, v5, v6, v7, v8, v9, some (.ref sl), v11] H := by
  refine ⟨_, pss_of soB_eq (pss_cons (ps_set (i := 11) scL.nd rfl (Or.inl rfl) (pe_callTy call_list_of (by rfl) o.hL (by decide +kernel) (pa_cons (pv 10) pa_nil)))
    (pss_cons (ps_set (i := 8) scL.nd rfl (Or.inl rfl) (pe_call o.Or.G hr (by rfl) o.Or.m o.Or.k o.Or.b .nil pass0 (pa_cons (pv 3) (pa_cons (pv 10) pa_nil))))
    (pss_cons (ps_if (PW.pt (pw_or (pt_cmpR op_ne (pe_callB (call_repr hr) (by rfl) o.B.repr (by decide +kernel) (pa_cons (pv 8) pa_nil)) (pe_callB (call_repr hr) (by rfl) o.B.repr (by decide +kernel) (pa_cons (pe_call o.Ol.G (hr.mono (by decide)) (by rfl) o.Ol.m o.Ol.k o.Ol.b .nil pass0 (pa_cons (pv 10) pa_nil)) pa_nil)) (nomark _))
        (pw_or1 (pt_cmpR (op_neD hr.units) (pv 10) (pv 11) (nomark _))))) (pss_one (ps_ret pe_bl)) pss_nil)
    (pss_cons (ps_expr (pe_bm PySem.F.plainAttrs_list PySem.F.slot_list_append PySem.F.type_list_append mt_append (pv 8) (pa_cons pe_non pa_nil)))
    (pss_one (ps_if (pt_cmpR op_ne (pe_callB (call_repr hr) (by rfl) o.B.repr (by decide +kernel) (pa_cons (pe_callK o.Or.G hr (by rfl) o.Or.m o.Or.k o.Or.kb pass0 (pa_cons (pv 3) pa_nil) (pk_cons (pv 10) pk_nil)) pa_nil)) (pe_callB (call_repr hr) (by rfl) o.B.repr (by decide +kernel) (pa_cons (pe_call o.Ol.G (hr.mono (by decide)) (by rfl) o.Ol.m o.Ol.k o.Ol.b .nil pass0 (pa_cons (pv 10) pa_nil)) pa_nil)) (nomark _)) (pss_one (ps_ret pe_bl)) pss_nil)))))), ?_⟩
  intro D H ka sl ks rows v0 v1 v2 v4 v5 v6 v7 v8 v9 v11 ha hk hsl hok hl q
  obtain ⟨ts, hs, hts⟩ := id hsl
  have okp : ∀ {rows' : List (List Nat)}, rows'.Perm rows → (∀ r ∈ rows', TOk ks r) ∧ rows'.length ≤ 40 := fun p => ⟨fun r hr => hok r (p.mem_iff.mp hr), by rw [p.length_eq]; exact hl⟩
  refine ⟨_, rfl, sl, _, rfl, .inl (SqL.of hs), fun hd hhd => ?_⟩
  have S1 : Same H (upd H hd (.lst (ts.map V.ref))) := same_new hhd
  have hhd1 : RowsAt (upd H hd (.lst (ts.map V.ref))) hd rows := ⟨ts, upd_same, paired_mono hts fun x y z => S1 _ _ z⟩
  generalize upd H hd (.lst (ts.map V.ref)) = H1 at S1 hhd1 ⊢
  refine ⟨_, rfl, _, rfl, ka, sl, ks, rows, rfl, ha.same S1, hk, hsl.same S1, hok, by omega, fun tl r2 H2 S2 htl0 htl hp2 hu2 => ?_⟩
  have S02 := S1.trans S2
  obtain ⟨o2, l2⟩ := okp hp2
  refine ⟨_, rfl, ?_⟩
  dsimp only [tNil]
  refine repr_sz htl.dp ((sz_rows hk o2 l2).le (by decide) (by decide)) (k := 3) (by decide) rfl ?_
  refine ⟨_, rfl, sl, rows, rfl, hsl.same S02, by omega, fun p3 r3 H3 S3 hp30 hp3 hpm3 hu3 => ?_⟩
  have S03 := S02.trans S3
  obtain rfl := sorted_one (hp2.trans hpm3.symm) hu2 hu3
  dsimp only [tNil]
  refine repr_sz hp3.dp ((sz_rows hk o2 l2).le (by decide) (by decide)) (k := 3) (by decide) rfl ⟨rfl, _, rfl, iteNS rfl ?_⟩
  refine ⟨_, rfl, _, rfl, _, _, (hsl.same S03).dp, (hhd1.same (S2.trans S3)).dp, shaped_rows rows, shaped_rows rows, _, rfl, ?_⟩
  have ev : (!PyData.eqv (.list (rowsD rows)) (.list (rowsD rows))) = false := by
    rw [SeqAt.eqv_refl _ (SeqAt.canLay_of_shaped (shaped_rows rows))]
    rfl
  rw [ev]
  refine iteF ?_
  obtain ⟨ts3, htl3, hts3⟩ := htl.same S3
  have htlH : H tl = none := free_of S1 htl0
  refine ⟨_, rfl, .inl ⟨rfl, _, SqL.of htl3⟩, tl, _, _, rfl, rfl, htl3, by rw [List.length_map, Paired.length hts3]; exact small1000 (by omega), ?_⟩
  have S4 : Same H (upd H3 tl (.lst (ts3.map V.ref ++ [V.non]))) := S03.over htlH
  generalize upd H3 tl (.lst (ts3.map V.ref ++ [V.non])) = H4 at S4 ⊢
  refine ⟨_, rfl, _, rfl, ka, sl, ks, rows, rfl, ha.same S4, hk, hsl.same S4, hok, by omega, fun p5 r5 H5 S5 hp50 hp5 hpm5 hu5 => ?_⟩
  have S05 := S4.trans S5
  obtain rfl := sorted_one (hp2.trans hpm5.symm) hu2 hu5
  dsimp only [tNil]
  refine repr_sz hp5.dp ((sz_rows hk o2 l2).le (by decide) (by decide)) (k := 3) (by decide) rfl ?_
  refine ⟨_, rfl, sl, rows, rfl, hsl.same S05, by omega, fun p6 r6 H6 S6 hp60 hp6 hpm6 hu6 => ?_⟩
  obtain rfl := sorted_one (hp2.trans hpm6.symm) hu2 hu6
  dsimp only [tNil]
  refine repr_sz hp6.dp ((sz_rows hk o2 l2).le (by decide) (by decide)) (k := 3) (by decide) rfl ⟨rfl, _, rfl, iteNS rfl ?_⟩
  exact q _ _ _ (S05.trans S6)
end
end K3


set_option Elab.async false
set_option linter.all false
set_option maxRecDepth 100000
set_option maxHeartbeats 1600000
namespace LN
open PySem L2
/-- some of the rows -/
theorem some_rows {H : Hp} {ts us : List Addr} {rows : List (List Nat)} (hp : Paired (TAt H) ts rows) (hs : ∀ u ∈ us, u ∈ ts) : Paired (TAt H) us (us.map (rowOf H)) ∧ ∀ r ∈ us.map (rowOf H), r ∈ rows := by
  obtain ⟨e, h⟩ := paired_rows hp
  refine ⟨paired_of fun t ht => h t (hs t ht), fun r hr => ?_⟩
  obtain ⟨u, hu, rfl⟩ := List.mem_map.mp hr
  rw [e]
  exact List.mem_map.mpr ⟨u, hs u hu, rfl⟩
theorem cut_refs (ts : List Addr) (lo hi : Option Int) : ∃ us : List Addr, cutV (ts.map V.ref) lo hi = us.map V.ref ∧ (∀ u ∈ us, u ∈ ts) ∧ us.length ≤ ts.length := by
  unfold cutV
  refine ⟨(ts.drop (HT.sIx (ts.map V.ref).length 0 lo)).take (HT.sIx (ts.map V.ref).length (ts.map V.ref).length hi - HT.sIx (ts.map V.ref).length 0 lo), by rw [List.map_take, List.map_drop], fun u hu => List.mem_of_mem_drop (List.mem_of_mem_take hu), ?_⟩
  rw [List.length_take, List.length_drop]
  omega
end LN
namespace K3
open PySem L2 LN
def d2 : List Nat := [5, 30]
theorem d2_ok : ∀ j, j < 2 → 1 ≤ d2.getD j 0 ∧ d2.getD j 0 ≤ 30 := by decide
section
variable {P : Program} {w : World} {K : PySem.W.Frag} {mg : Str → Option Value} {base : Heap} {fa : Nat → Addr} {da : Nat → FuncData}
variable {f : Addr} {cdv : Value} {A : Around} {outer : List Env} {s : Shared} {H0 : Hp} {E0' : XK}
/-- the loop over the four lists -/
theorem lists_ok (o : Ok P w K mg base fa da) (hr : Room 6 (XL P w K mg base f cdv A outer s H0 E0').A) :
    ∃ t, PS (XL P w K mg base f cdv A outer s H0 E0') (kst' 6) t ∧ ∀ (D : Ends) (H : Hp) (p ka rl : Addr) (ks : KS) (rows : List (List Nat)) (v0 v1 v5 v6 v7 v8 v9 v10 v11 : Option V), PotAt H p → KAt H ka ks → KOk ks → RowsAt H rl rows → rl ≠ p → (∀ r ∈ rows, TOk ks r) → rows.length ≤ 13 →
      (∀ (v8 v10 v11 : Option V) (H' : Hp), Sam p H H' → PotAt H' p → D.nx [v0, v1, some (.ref p), some (.ref ka), some (.ref rl), v5, v6, v7, v8, v9, v10, v11] H') →
      t D [v0, v1, some (.ref p), some (.ref ka), some (.ref rl), v5, v6, v7, v8, v9, v10, v11] H := by
  obtain ⟨tb, pb, rb⟩ := so_ok (f := f) (cdv := cdv) (A := A) (outer := outer) (s := s) (H0 := H0) (E0' := E0') o hr
  refine ⟨_, ps_for PassesOwn.never rfl (pi_tup (pe_tup (pa_cons (pv 4) (pa_cons (pe_revL (pv 4) (pe_un un_neg pe_int)) (pa_cons (pe_call o.Mi.G (hr.mono (by decide)) (by rfl) o.Mi.m o.Mi.k o.Mi.b .nil pass0 (pa_cons (pv 2) (pa_cons (pe_op op_cat (pv 4) (pe_slice sl_list (pv 4) po_none (po_some pe_int))) pa_nil))) (pa_cons (pe_lst pa_nil) pa_nil)))))) (pg_name (i := 10) scL.nd rfl (Or.inl rfl)) pb, ?_⟩
  clear pb
  intro D H p ka rl ks rows v0 v1 v5 v6 v7 v8 v9 v10 v11 hp ha hk hrl hnp hok hl13 q
  obtain ⟨ts, hl, hts⟩ := id hrl
  have hlen : ts.length = rows.length := Paired.length hts
  obtain ⟨n0, hp0⟩ := id hp
  refine ⟨_, rfl, _, rfl, _, rfl, rl, _, rfl, rfl, hl, fun l1 hl1 => ?_⟩
  have S1 : Same H (upd H l1 (.lst (ts.map V.ref).reverse)) := same_new hl1
  have hl11 : (upd H l1 (.lst (ts.map V.ref).reverse)) l1 = some (.lst (ts.reverse.map V.ref)) := by rw [upd_same, List.map_reverse]
  generalize upd H l1 (.lst (ts.map V.ref).reverse) = H1 at S1 hl11 ⊢
  refine ⟨_, rfl, _, rfl, _, rfl, _, rfl, rl, _, rfl, SqL.of (S1 _ _ hl), fun l2 hl2 => ?_⟩
  obtain ⟨us, eus, hus, lus⟩ := cut_refs ts none (some 2)
  rw [eus]
  have S2 : Same H1 (upd H1 l2 (.lst (us.map V.ref))) := same_new hl2
  refine ⟨rl, l2, _, _, rfl, rfl, S2 _ _ (S1 _ _ hl), upd_same, by rw [List.length_map, List.length_map]; exact Nat.le_of_lt (small1000 (by omega)), fun l3 hl3 => ?_⟩
  have S3 : Same (upd H1 l2 (.lst (us.map V.ref))) (upd (upd H1 l2 (.lst (us.map V.ref))) l3 (.lst (ts.map V.ref ++ us.map V.ref))) := same_new hl3
  have hl33 : (upd (upd H1 l2 (.lst (us.map V.ref))) l3 (.lst (ts.map V.ref ++ us.map V.ref))) l3 = some (.lst ((ts ++ us).map V.ref)) := by rw [upd_same, List.map_append]
  have S03 : Same H (upd (upd H1 l2 (.lst (us.map V.ref))) l3 (.lst (ts.map V.ref ++ us.map V.ref))) := (S1.trans S2).trans S3
  have S13 := S2.trans S3
  generalize upd (upd H1 l2 (.lst (us.map V.ref))) l3 (.lst (ts.map V.ref ++ us.map V.ref)) = H3 at S3 hl33 S03 S13 ⊢
  refine ⟨p, l3, ts ++ us, rfl, hp.same S03, hl33, by rw [List.length_append]; omega, fun l4 ts4 H4 S4 hp4 hl40 hl4 hm4 le4 => ?_⟩
  refine ⟨Nat.zero_le _, fun l5 hl5 => ?_⟩
  refine ⟨by show 4 ≤ sizeLine; decide, fun tu htu => ?_⟩
  have S5 : Same H4 (upd H4 l5 (.lst [])) := same_new hl5
  have S6 : Same (upd H4 l5 (.lst [])) (upd (upd H4 l5 (.lst [])) tu (.tup [.ref rl, .ref l1, .ref l4, .ref l5])) := same_new htu
  have S46 := S5.trans S6
  have htu6 : (upd (upd H4 l5 (.lst [])) tu (.tup [.ref rl, .ref l1, .ref l4, .ref l5])) tu = some (.tup [.ref rl, .ref l1, .ref l4, .ref l5]) := upd_same
  have hl56 : (upd (upd H4 l5 (.lst [])) tu (.tup [.ref rl, .ref l1, .ref l4, .ref l5])) l5 = some (.lst (([] : List Addr).map V.ref)) := S6 _ _ upd_same
  generalize upd (upd H4 l5 (.lst [])) tu (.tup [.ref rl, .ref l1, .ref l4, .ref l5]) = H6 at S6 S46 htu6 hl56 ⊢
  have hp3 := hp.same S03
  have S06 : Sam p H H6 := ((Sam.of S03).trans S4).trans (Sam.of S46)
  have T36 : Tp H3 H6 := (Tp.sam hp3 S4).trans (Tp.of S46)
  have T06 : Tp H H6 := (Tp.of S03).trans T36
  have hts6 : Paired (TAt H6) ts rows := paired_mono hts fun x y z => T06 _ _ z
  have h1p : l1 ≠ p := fun z => by
    obtain ⟨m, hm⟩ := hp.same S1
    rw [z, hm] at hl11
    have := HO.lst.inj (Option.some.inj hl11)
    match ts.reverse, this with
    | [], e => cases e
    | _ :: _, e => cases e
  have hrl6 : RowsAt H6 rl rows := ⟨ts, S06 _ _ hl hnp, hts6⟩
  have hin2 : ∀ u ∈ ts ++ us, u ∈ ts := fun u hu => by
    rcases List.mem_append.mp hu with z | z
    · exact z
    · exact hus u z
  obtain ⟨pr1, mr1⟩ := some_rows hts6 (us := ts.reverse) fun u hu => List.mem_reverse.mp hu
  obtain ⟨pr4, mr4⟩ := some_rows hts6 (us := ts4) fun u hu => hin2 u (hm4 u hu)
  have hl16 : RowsAt H6 l1 (ts.reverse.map (rowOf H6)) := ⟨ts.reverse, S46 _ _ (S4 _ _ (S13 _ _ hl11) h1p), pr1⟩
  have hl46 : RowsAt H6 l4 (ts4.map (rowOf H6)) := ⟨ts4, S46 _ _ hl4, pr4⟩
  have hl56' : RowsAt H6 l5 [] := ⟨[], hl56, .nil⟩
  rw [List.length_append] at le4
  have ha6 := ha.sam hp0 S06
  refine ⟨tu, rfl, ⟨_, SqT.of htu6⟩, ?_⟩
  refine for_tup (K := K) (xs := [.ref rl, .ref l1, .ref l4, .ref l5]) (fun i σ H7 => Same H6 H7 ∧ ∃ v8 v10 v11 : Option V, σ = [v0, v1, some (.ref p), some (.ref ka), some (.ref rl), v5, v6, v7, v8, v9, v10, v11]) ⟨Same.refl _, _, _, _, rfl⟩ (fun i σ H7 _ h => SqT.of (h.1 _ _ htu6)) ?_ ?_
  · rintro i x σ H7 hx ⟨S7, v8, v10, v11, rfl⟩
    have go : ∃ (sl : Addr) (rws : List (List Nat)), x = .ref sl ∧ RowsAt H6 sl rws ∧ (∀ r ∈ rws, r ∈ rows) ∧ rws.length ≤ 40 := by
      match i, hx with
      | 0, hx => cases hx; exact ⟨rl, rows, rfl, hrl6, fun r hr => hr, by omega⟩
      | 1, hx => cases hx; exact ⟨l1, _, rfl, hl16, mr1, by rw [List.length_map, List.length_reverse]; omega⟩
      | 2, hx => cases hx; exact ⟨l4, _, rfl, hl46, mr4, by rw [List.length_map]; omega⟩
      | 3, hx => cases hx; exact ⟨l5, [], rfl, hl56', (fun r hr => nomatch hr), by decide⟩
      | i + 4, hx => simp at hx
    obtain ⟨sl, rws, rfl, h1, h2, h3⟩ := go
    refine rb _ H7 ka sl ks rws v0 v1 (some (.ref p)) (some (.ref rl)) v5 v6 v7 v8 v9 v11 (ha6.same S7) hk (h1.same S7) (fun r hr => hok r (h2 r hr)) h3 fun v8 v11 H' S' => ?_
    exact ⟨S7.trans S', _, _, _, rfl⟩
  · rintro σ H7 ⟨S7, v8, v10, v11, rfl⟩
    exact q _ _ _ H7 (S06.trans (Sam.of S7)) ((hp4.same S46).same S7)
theorem k_ok (o : Ok P w K mg base fa da) (hr : Room 6 (XL P w K mg base f cdv A outer s H0 E0').A) :
    ∃ t, PSs (XL P w K mg base f cdv A outer s H0 E0') kB t ∧ ∀ (D : Ends) (H : Hp) (a : Addr) (ns : List Int) (k : Nat) (v2 v3 v4 v5 v6 v7 v8 v9 v10 v11 : Option V), SqL K H a (ns.map V.int) →
      (∀ (v2 v3 v4 v5 v6 v7 v8 v9 v10 v11 : Option V) (H' : Hp), SqL K H' a (ns.map V.int) → D.nx [some (.ref a), some (nV k), v2, v3, v4, v5, v6, v7, v8, v9, v10, v11] H') →
      t D [some (.ref a), some (nV k), v2, v3, v4, v5, v6, v7, v8, v9, v10, v11] H := by
  obtain ⟨t4, p4, r4⟩ := terms_ok (f := f) (cdv := cdv) (A := A) (outer := outer) (s := s) (H0 := H0) (E0' := E0') o hr
  obtain ⟨t6, p6, r6⟩ := lists_ok (f := f) (cdv := cdv) (A := A) (outer := outer) (s := s) (H0 := H0) (E0' := E0') o hr
  have hr2 := hr.mono (show 2 ≤ 6 by decide)
  refine ⟨_, pss_of kB_eq (pss_cons (ps_set (i := 2) scL.nd rfl (Or.inl rfl) (pe_call o.Po.G hr2 (by rfl) o.Po.m o.Po.k o.Po.b .nil pass0 (pa_cons (pe_call o.C.G hr2 (by rfl) o.C.m o.C.k o.C.b .nil pass0 (pa_cons (pv 0) (pa_cons (pv 1) pa_nil))) pa_nil)))
    (pss_cons (ps_set (i := 3) scL.nd rfl (Or.inl rfl) (pe_call o.Ki.G (hr.mono (by decide)) (by rfl) o.Ki.m o.Ki.k o.Ki.b .nil pass0 (pa_cons (pv 2) pa_nil)))
    (pss_cons (ps_set (i := 4) scL.nd rfl (Or.inl rfl) (pe_call o.Pl.G (hr.mono (by decide)) (by rfl) o.Pl.m o.Pl.k o.Pl.b .nil pass0 (pa_cons (pv 2) (pa_cons (pv 3) (pa_cons (pe_op op_add pe_int (pe_call o.T.G hr2 (by rfl) o.T.m o.T.k o.T.b .nil pass0 (pa_cons (pv 2) (pa_cons pe_int pa_nil))))
      (pa_cons (pe_ix ix_list (pe_lst (pa_cons pe_int (pa_cons pe_int pa_nil))) (pe_call o.T.G hr2 (by rfl) o.T.m o.T.k o.T.b .nil pass0 (pa_cons (pv 2) (pa_cons pe_int pa_nil))) (fun _ _ => rfl)) pa_nil))))))
    (pss_cons (ps_expr (pe_bm PySem.F.plainAttrs_list PySem.F.slot_list_append PySem.F.type_list_append mt_append (pv 4) (pa_cons (pe_call o.M.G (hr.mono (by decide)) (by rfl) o.M.m o.M.k o.M.b .nil pass0 (pa_cons (pv 2) (pa_cons (pv 3) (pa_cons pe_int pa_nil)))) pa_nil)))
    (pss_cons p4
    (pss_cons (ps_set (i := 9) scL.nd rfl (Or.inl rfl) (pe_callB (call_repr hr) (by rfl) o.B.repr (by decide +kernel) (pa_cons (pv 4) pa_nil)))
    (pss_cons p6
    (pss_one (ps_if (pt_cmpR op_ne (pe_callB (call_repr hr) (by rfl) o.B.repr (by decide +kernel) (pa_cons (pv 4) pa_nil)) (pv 9) (nomark _)) (pss_one (ps_ret pe_bl)) pss_nil))))))))), ?_⟩
  clear p4 p6
  intro D H a ns k v2 v3 v4 v5 v6 v7 v8 v9 v10 v11 hS q
  refine ⟨_, rfl, _, rfl, a, ns, k, rfl, hS, fun c => ⟨c, rfl, fun p n hp => ?_⟩⟩
  refine ⟨_, rfl, p, rfl, ⟨n, upd_same⟩, fun ka ks H2 S2 hp2 ha hk => ?_⟩
  obtain ⟨n2, hp20⟩ := id hp2
  obtain ⟨m, hm, em⟩ := mod_nat (n := n2) (m := 12) (by decide)
  refine ⟨_, rfl, _, rfl, _, rfl, p, n2, 12, rfl, hp20, by decide, by decide, _, _, rfl, rfl, ?_⟩
  have S3 : Sam p H2 (upd H2 p (.lst [.int (n2 / 12)])) := Sam.upd
  have hp3 : (upd H2 p (.lst [.int (n2 / 12)])) p = some (.lst [.int (n2 / 12)]) := upd_same
  generalize upd H2 p (.lst [.int (n2 / 12)]) = H3 at S3 hp3 ⊢
  generalize n2 / 12 = n3 at hp3
  refine ⟨by show 2 ≤ sizeLine; decide, fun l2 hl2 => ?_⟩
  have hpl2 : p ≠ l2 := ne_of_none hp3 hl2
  have hp3' : (upd H3 l2 (.lst [.int 5, .int 30])) p = some (.lst [.int n3]) := by rw [upd_ne hpl2]; exact hp3
  refine ⟨_, rfl, p, n3, 2, rfl, hp3', by decide, by decide, ?_⟩
  obtain ⟨j, hj, ej⟩ := mod_nat (n := n3) (m := 2) (by decide)
  refine ⟨l2, d2.map nV, _, nV (d2.getD j 0), rfl, rfl, SqL.of (by rw [upd_ne (Ne.symm hpl2), upd_same]; rfl), ?_, ?_⟩
  · rw [show (n3 % 2 : Int) = (j : Int) from ej]
    exact atI_nat (getD_map hj)
  have h2 := d2_ok j hj
  generalize d2.getD j 0 = tp at h2
  have S4 : Sam p H3 (upd (upd H3 l2 (.lst [.int 5, .int 30])) p (.lst [.int (n3 / 2)])) := (Sam.of (same_new hl2)).trans Sam.upd
  have hp4 : PotAt (upd (upd H3 l2 (.lst [.int 5, .int 30])) p (.lst [.int (n3 / 2)])) p := ⟨_, upd_same⟩
  generalize upd (upd H3 l2 (.lst [.int 5, .int 30])) p (.lst [.int (n3 / 2)]) = H4 at S4 hp4 ⊢
  have S24 := S3.trans S4
  refine ⟨p, ka, ks, 1 + m, tp, ?_, hp4, ha.sam hp20 S24, hk, by omega, by omega, by omega, by omega, fun rl rows H5 S5 hp5 hrl0 hrlp hrl hl12 hok => ?_⟩
  · show [V.ref p, V.ref ka, V.int (1 + n2 % 12), nV tp] = _
    rw [show (n2 % 12 : Int) = (m : Int) from em]
    show [V.ref p, V.ref ka, V.int (1 + (m : Int)), nV tp] = [V.ref p, V.ref ka, V.int ((1 + m : Nat) : Int), nV tp]
    rw [show ((1 + m : Nat) : Int) = 1 + (m : Int) by omega]
  have S25 := S24.trans S5
  obtain ⟨ts5, hl5, hts5⟩ := id hrl
  have hlen5 : ts5.length = rows.length := Paired.length hts5
  refine ⟨_, rfl, .inl ⟨rfl, _, SqL.of hl5⟩, _, rfl, _, rfl, p, ka, ks, 30, rfl, hp5, ha.sam hp20 S25, hk, by decide, by decide, fun u ru H6 S6 hp6 hu6 oku => ?_⟩
  have hl6 := S6 _ _ hl5 hrlp
  have T6 := Tp.sam hp5 S6
  refine ⟨rl, _, _, rfl, rfl, hl6, by rw [List.length_map]; exact small1000 (by omega), ?_⟩
  have T7 : Tp H6 (upd H6 rl (.lst (ts5.map V.ref ++ [V.ref u]))) := Tp.lst hl6
  have hrl7 : RowsAt (upd H6 rl (.lst (ts5.map V.ref ++ [V.ref u]))) rl (rows ++ [ru]) := ⟨ts5 ++ [u], by rw [upd_same, List.map_append]; rfl, paired_snoc (R := TAt _) (T7 _ _ hu6) (paired_mono hts5 fun x y z => T7 _ _ (T6 _ _ z))⟩
  have hp7 : PotAt (upd H6 rl (.lst (ts5.map V.ref ++ [V.ref u]))) p := hp6.upd hrlp.symm
  have hrl2 : H2 rl = none := S24.free hrlp hrl0
  have S27 : Sam p H2 (upd H6 rl (.lst (ts5.map V.ref ++ [V.ref u]))) := (S25.trans S6).over hrl2
  generalize upd H6 rl (.lst (ts5.map V.ref ++ [V.ref u])) = H7 at T7 hrl7 hp7 S27 ⊢
  have ok7 : ∀ r ∈ rows ++ [ru], TOk ks r := fun r hr' => by
    rcases List.mem_append.mp hr' with z | z
    · exact hok r z
    · rw [List.mem_singleton.mp z]; exact oku
  have len7 : (rows ++ [ru]).length ≤ 13 := by rw [List.length_append, List.length_singleton]; omega
  generalize rows ++ [ru] = rws at hrl7 ok7 len7
  refine r4 _ H7 ka rl ks rws _ _ _ _ _ _ _ _ _ _ (ha.sam hp20 S27) hk hrl7 ok7 fun v5 v6 v7 v8 H8 S8 => ?_
  have S28 := S27.trans (Sam.of S8)
  have hrl8 := hrl7.same S8
  have sz := (sz_rows hk ok7 (by omega)).le (w' := 100000) (k' := 3) (by decide) (by decide)
  refine ⟨_, rfl, ?_⟩
  dsimp only [tNil]
  refine repr_sz hrl8.dp sz (by decide) rfl ?_
  refine r6 _ H8 p ka rl ks rws _ _ _ _ _ _ _ _ _ (hp7.same S8) (ha.sam hp20 S28) hk hrl8 hrlp ok7 len7 fun v8 v10 v11 H9 S9 hp9 => ?_
  have S29 := S28.trans S9
  have hrl9 : RowsAt H9 rl rws := RowsAt.sam (hp7.same S8) hrlp S9 hrl8
  refine ⟨_, rfl, ?_⟩
  dsimp only [tNil]
  refine repr_sz hrl9.dp sz (by decide) rfl ⟨_, rfl, rfl, _, rfl, iteNS rfl ?_⟩
  exact q _ _ _ _ _ _ _ _ _ _ H9 (seq_new hS hp (S2.trans S29))
theorem ok_law {f : Addr} {fd : FuncData} (F : Fun K "law" "law" sLaw f fd) (o : Ok P w K mg base fa da) : FnOk P w K mg base CX0 7 f fd ["_law_script"] (spLaw K) := by
  refine F.ok scL (fun vs H Q E h => ?_) (fun cdv A outer s H vs Q E hr h => ?_)
  · obtain ⟨a, ns, rfl, _⟩ := h
    rfl
  · obtain ⟨a, ns, rfl, hS, hlen, k⟩ := h
    obtain ⟨tb, pb, rb⟩ := k_ok (f := f) (cdv := cdv) (A := A) (outer := outer) (s := s) (H0 := H) (E0' := E) o hr
    refine ⟨_, pss_of lB_eq (pss_cons (ps_for PassesOwn.never rfl (pi_range1 (by rfl) o.B.range (pa_cons (pe_callB (call_max2 rfl) (by rfl) o.B.mx PyProof.Rows.boot_max (pa_cons pe_int (pa_cons (pe_callB (call_min2 rfl) (by rfl) o.B.mn PyProof.Rows.boot_min (pa_cons (pe_callB call_len_seq (by rfl) o.B.len PySem.boot_len (pa_cons (pv 0) pa_nil)) (pa_cons pe_int pa_nil))) pa_nil))) pa_nil)) (pg_name (i := 1) scL.nd rfl (Or.inl rfl)) pb)
      (pss_one (ps_ret pe_bl))), ?_⟩
    clear pb
    refine ⟨_, rfl, a, _, rfl, .inl hS, _, _, rfl, _, _, rfl, _, rfl, ?_, ?_, ?_⟩
    · split <;> (try split) <;> omega
    · split <;> (try split) <;> omega
    refine for_range (fun j σ H2 => SqL K H2 a (ns.map V.int) ∧ ∃ (v1 v2 v3 v4 v5 v6 v7 v8 v9 v10 v11 : Option V), σ = [some (.ref a), v1, v2, v3, v4, v5, v6, v7, v8, v9, v10, v11]) ⟨hS, _, _, _, _, _, _, _, _, _, _, _, rfl⟩ ?_ (fun σ H' _ => k H')
    rintro j σ H2 hj ⟨S, v1, v2, v3, v4, v5, v6, v7, v8, v9, v10, v11, rfl⟩
    rw [show (0 : Int) + (j : Int) = (j : Int) by omega]
    refine rb _ H2 a ns j v2 v3 v4 v5 v6 v7 v8 v9 v10 v11 S fun v2 v3 v4 v5 v6 v7 v8 v9 v10 v11 H' S' => ?_
    exact ⟨S', _, _, _, _, _, _, _, _, _, _, _, rfl⟩
end
end K3


set_option Elab.async false
set_option linter.all false
set_option maxRecDepth 100000
set_option maxHeartbeats 800000
namespace K3
open PySem L2 PySem.W
def adr : Option (Option Value) → Addr
  | some (some (.ref a)) => a
  | _ => 0
def glb (K : Frag) (x : Str) : Addr := adr (nsIn K mainGlobals x)
def obj (K : Frag) (a : Addr) : Obj := (K.lookup a).getD default
def fdn (K : Frag) (a : Addr) : FuncData := match (obj K a).data with
  | .func fd => fd
  | _ => default
def vadr : Value → Addr
  | .ref a => a
  | _ => 0
def fnF (K : Frag) (x qual : Str) (st : Stmt) (a : Addr) : FuncData := fnOf x qual (defArgs st) (defBody st) (defScope st) .none (fdn K a).kwdefaults (fdn K a).doc (fdn K a).pyModule (fdn K a).annotations (fdn K a).code (fdn K a).closureTuple
def tokOf : Option Value → Tok
  | some (.str _ t) => t
  | some (.int _ t) => t
  | _ => default
def itemsOf (K : Frag) (a : Addr) : Array Value × Nat := match (obj K a).data with
  | .seq vs n => (vs, n)
  | _ => (#[], 0)
def znm : List Str := ["isinstance", "len", "range", "max", "min", "repr", "int", "bool", "str", "tuple", "all", "any", "set", "list", "sorted", "enumerate"]
def fns : List (Str × Nat) := [("is_whole", 9), ("is_name", 10), ("is_sign", 11), ("are_signs", 12), ("check_signs", 13), ("makes_term", 14), ("ends_of", 16), ("part_places", 17), ("split_term", 18), ("parts_of", 19), ("order_key", 20), ("gathered", 21), ("inner", 22), ("depth", 23), ("in_order", 24), ("_law_cell_at", 26), ("_law_pot", 27), ("_law_take", 28), ("_law_mixed", 29), ("_law_name", 30), ("_law_kinds", 31), ("_law_term", 32), ("_law_end", 33), ("_law_below", 34), ("_law_ordered", 35), ("_law_inner", 36), ("_law_pool", 37), ("_law_depth", 38), ("law", 39)]
def fnD (K : Frag) (x : Str) (st : Stmt) (a : Addr) : FuncData := fnOf x x (defArgs st) (defBody st) (defScope st) (fdn K a).defaults (fdn K a).kwdefaults (fdn K a).doc (fdn K a).pyModule (fdn K a).annotations (fdn K a).code (fdn K a).closureTuple
def csts : List Str := ["MOST_SIGNS", "MOST_LETTERS", "MOST_PARTS", "MOST_NUMBERS"]
def tokN (K : Frag) (x : Str) : Tok := match nsIn K mainGlobals x with
  | some v => tokOf v
  | none => default
abbrev ckt (K : Frag) : Addr := glb K "check_term"
abbrev ckd (K : Frag) : Addr := vadr (fdn K (ckt K)).defaults
structure Facts (P : Program) (K : Frag) : Prop where
  z : znm.map (nsIn K mainGlobals) = List.replicate 16 (some none)
  cs : csts.map (fun x => nsIn K mainGlobals x) = [some (some (.int 8 (tokN K "MOST_SIGNS"))), some (some (.int 6 (tokN K "MOST_LETTERS"))), some (some (.int 3 (tokN K "MOST_PARTS"))), some (some (.int 30 (tokN K "MOST_NUMBERS")))]
  fa : fns.map (fun x => nsIn K mainGlobals x.1) = fns.map (fun x => some (some (.ref (glb K x.1))))
  fk : fns.map (fun x => keepIn K (.ref (glb K x.1))) = fns.map (fun _ => true)
  fc : fns.map (fun x => codeIn K (fdn K (glb K x.1)).code x.1) = fns.map (fun _ => true)
  fl : fns.map (fun x => K.lookup (glb K x.1)) = fns.map (fun x => some ⟨(obj K (glb K x.1)).cls, (obj K (glb K x.1)).dict, .func (fnF K x.1 x.1 (top x.2) (glb K x.1)), (obj K (glb K x.1)).slots⟩)
  ta : nsIn K mainGlobals "check_term" = some (some (.ref (ckt K)))
  tk : keepIn K (.ref (ckt K)) = true
  tc : codeIn K (fdn K (ckt K)).code "check_term" = true
  tl : K.lookup (ckt K) = some ⟨(obj K (ckt K)).cls, (obj K (ckt K)).dict, .func (fnD K "check_term" sCkT (ckt K)), (obj K (ckt K)).slots⟩
  td : (fdn K (ckt K)).defaults = .ref (ckd K)
  te : K.lookup (ckd K) = some ⟨(obj K (ckd K)).cls, (obj K (ckd K)).dict, .seq #[.int 0 (tokOf (itemsOf K (ckd K)).1[0]?)] (itemsOf K (ckd K)).2, (obj K (ckd K)).slots⟩
end K3


set_option Elab.async false
set_option linter.all false
set_option maxRecDepth 100000
set_option maxHeartbeats 800000
namespace K3
open PySem L2 PySem.W
theorem rep_mem {α : Type} {xs : List Str} {g : Str → α} {n : Nat} {v : α} (h : xs.map g = List.replicate n v) {x : Str} (hx : x ∈ xs) : g x = v := by
  have : g x ∈ xs.map g := List.mem_map_of_mem hx
  rw [h] at this
  exact (List.mem_replicate.mp this).2
section
variable {P : Program} {K : Frag} {mg : Str → Option Value} {h : Heap} {w : World} {base : Heap}
theorem Facts.no (F : Facts P K) (X : K.In h) (G : h.Ns mainGlobals mg) {x : Str} (hx : x ∈ znm) : mg x = none := PySem.W.mg_none_of X G (rep_mem F.z hx)
theorem Facts.at_ (F : Facts P K) (X : K.In h) (G : h.Ns mainGlobals mg) {x : Str × Nat} (hx : x ∈ fns) : mg x.1 = some (.ref (glb K x.1)) := PySem.W.mg_of X G (List.map_inj_left.mp F.fa x hx)
theorem Facts.fun_ (F : Facts P K) {x : Str} {i : Nat} (hx : (x, i) ∈ fns) : Fun K x x (top i) (glb K x) (fnF K x x (top i) (glb K x)) := fun_mk (st := top i) (List.map_inj_left.mp F.fl (x, i) hx) (List.map_inj_left.mp F.fc (x, i) hx) (List.map_inj_left.mp F.fk (x, i) hx)
theorem Facts.known (F : Facts P K) (X : K.In h) (G : h.Ns mainGlobals mg) {k i : Nat} {x : Str} {ps : List Str} {sp : Sp} (hx : (x, i) ∈ fns) (g : FnOk P w K mg base CX0 k (glb K x) (fnF K x x (top i) (glb K x)) ps sp)
    (hb : ∀ (kV doc pm : Value) (an : Option Addr) (cdv ct : Value) (us : List Value), us.length = ps.length → bindArgs (PySem.W.fnOf x x (defArgs (top i)) (defBody (top i)) (defScope (top i)) .none kV doc pm an cdv ct) ⟨us, []⟩ = pure (ps.zip us)) :
    Known P w K mg base CX0 k x (glb K x) (fnF K x x (top i) (glb K x)) ps sp := ⟨g, F.at_ X G hx, List.map_inj_left.mp F.fk (x, i) hx, (F.fun_ hx).binds hb⟩
theorem Facts.blt (F : Facts P K) (X : K.In h) (G : h.Ns mainGlobals mg) : Blt mg := ⟨F.no X G (by decide +kernel), F.no X G (by decide +kernel), F.no X G (by decide +kernel), F.no X G (by decide +kernel), F.no X G (by decide +kernel), F.no X G (by decide +kernel), F.no X G (by decide +kernel), F.no X G (by decide +kernel), F.no X G (by decide +kernel), F.no X G (by decide +kernel), F.no X G (by decide +kernel), F.no X G (by decide +kernel), F.no X G (by decide +kernel)⟩
theorem Facts.cst (F : Facts P K) (X : K.In h) (G : h.Ns mainGlobals mg) : Cst mg :=
  ⟨⟨_, PySem.W.mg_of X G (List.cons.inj F.cs).1, ⟨_, rfl⟩⟩, ⟨_, PySem.W.mg_of X G (List.cons.inj (List.cons.inj F.cs).2).1, ⟨_, rfl⟩⟩, ⟨_, PySem.W.mg_of X G (List.cons.inj (List.cons.inj (List.cons.inj F.cs).2).2).1, ⟨_, rfl⟩⟩, ⟨_, PySem.W.mg_of X G (List.cons.inj (List.cons.inj (List.cons.inj (List.cons.inj F.cs).2).2).2).1, ⟨_, rfl⟩⟩⟩
theorem Facts.fund (F : Facts P K) : FunD K "check_term" "check_term" sCkT (ckt K) (fnD K "check_term" sCkT (ckt K)) := ⟨_, _, _, _, _, _, _, _, _, _, rfl, F.tl, F.tc⟩
theorem len2' {us : List Value} {d : Value} (hl : (us ++ [d]).length = 3) : ∃ u v, us = [u, v] := by
  rw [List.length_append, List.length_singleton] at hl
  match us, (show us.length = 2 by omega) with
  | [u, v], _ => exact ⟨u, v, rfl⟩
theorem Facts.ckT (F : Facts P K) (X : K.In h) (G : h.Ns mainGlobals mg) (g : FnOk P w K mg base CX0 4 (ckt K) (fnD K "check_term" sCkT (ckt K)) ["signs", "term", "at"] spCkT) :
    KnownT P w K mg base 4 "check_term" (ckt K) (fnD K "check_term" sCkT (ckt K)) ["signs", "term", "at"] spCkT (.int 0 (tokOf (itemsOf K (ckd K)).1[0]?)) where
  G := g
  m := PySem.W.mg_of X G F.ta
  k := F.tk
  b := fun s us X hl => by
    rw [List.append_nil] at hl ⊢
    exact match us, hl with | [u, v, x], _ => PySem.W.binds_K X F.td F.te rfl rfl rfl
  b0 := fun s us X hl => by
    obtain ⟨u, v, rfl⟩ := len2' hl
    exact PySem.W.binds_K X F.td F.te rfl rfl rfl
  v0 := .cons ⟨_, rfl⟩ .nil
theorem gO_len {us ws : List Value} (hl : (gO us ws).length = 2) : ∃ a d, us = [a] ∧ ws = [d] := by
  match ws, hl with
  | [], hl => simp [gO] at hl
  | [d], hl =>
    have hl : us.length = 1 := by simpa [gO] using hl
    match us, hl with
    | [a], _ => exact ⟨a, d, rfl, rfl⟩
  | _ :: _ :: _, hl => simp [gO] at hl
theorem gO_rel {vs zs : List V} {us ws : List Value} (r : Vals vs us) (z : Vals zs ws) : Vals (gO vs zs) (gO us ws) := by
  cases z with
  | nil => exact .nil
  | cons a b =>
    cases b with
    | nil => exact r.append (.cons a .nil)
    | cons c d => exact .nil
theorem Facts.ord_ (F : Facts P K) (X : K.In h) (G : h.Ns mainGlobals mg) (g : FnOk P w K mg base CX0 6 (glb K "in_order") (fnF K "in_order" "in_order" (top 24) (glb K "in_order")) ["signs", "terms"] spOrd) : KnownO P w K mg base (glb K "in_order") (fnF K "in_order" "in_order" (top 24) (glb K "in_order")) where
  toKnown := F.known X G (x := "in_order") (i := 24) (by decide +kernel) g fun _ _ _ _ _ _ us hl => match us, hl with | [_, _], _ => rfl
  kb := ⟨fun s us ws _ hl => by
      obtain ⟨a, d, rfl, rfl⟩ := gO_len hl
      exact .of_eq rfl, gO_rel⟩
def fad (K : Frag) (i : Nat) : Addr := glb K (((fns.find? fun x => x.2 == i).map (·.1)).getD "")
def dad (K : Frag) (i : Nat) : FuncData := fnF K (((fns.find? fun x => x.2 == i).map (·.1)).getD "") (((fns.find? fun x => x.2 == i).map (·.1)).getD "") (top i) (fad K i)
theorem all_mk {l : PySem.W.OpenLaw} {fa : Addr} (F : Facts l.prog K) (X : K.In h) (G : h.Ns mainGlobals mg) (hfa : mg "law" = some (.ref fa)) :
    ∃ fd : FuncData, (∀ (s : Shared) (v : Value), BindsTo s fd ⟨[v], []⟩ [("_law_script", v)]) ∧ ∀ base : Heap, K.In base → base.Ns mainGlobals mg → FnOk l.prog w K mg base CX0 7 fa fd ["_law_script"] (spLaw K) := by
  have e := hfa.symm.trans (F.at_ X G (x := ("law", 39)) (by decide +kernel))
  cases e
  have B := F.blt X G
  have C := F.cst X G
  have hL := F.no X G (x := "list") (by decide +kernel)
  have hS := F.no X G (x := "sorted") (by decide +kernel)
  have hE := F.no X G (x := "enumerate") (by decide +kernel)
  refine ⟨fnF K "law" "law" (top 39) (glb K "law"), fun s v => .of_eq rfl, fun base _ _ => ?_⟩
  have kW := F.known (w := w) (base := base) X G (x := "is_whole") (i := 9) (by decide +kernel) (ok_whole (F.fun_ (by decide +kernel)) B) fun _ _ _ _ _ _ us hl => match us, hl with | [_], _ => rfl
  have kN := F.known (w := w) (base := base) X G (x := "is_name") (i := 10) (by decide +kernel) (ok_name (F.fun_ (by decide +kernel)) B C) fun _ _ _ _ _ _ us hl => match us, hl with | [_], _ => rfl
  have kS := F.known (w := w) (base := base) X G (x := "is_sign") (i := 11) (by decide +kernel) (ok_sign (F.fun_ (by decide +kernel)) B C kW kN) fun _ _ _ _ _ _ us hl => match us, hl with | [_], _ => rfl
  have kSs := F.known (w := w) (base := base) X G (x := "are_signs") (i := 12) (by decide +kernel) (ok_signs (F.fun_ (by decide +kernel)) B C kS) fun _ _ _ _ _ _ us hl => match us, hl with | [_], _ => rfl
  have kCS := F.known (w := w) (base := base) X G (x := "check_signs") (i := 13) (by decide +kernel) (ok_cks (F.fun_ (by decide +kernel)) kSs) fun _ _ _ _ _ _ us hl => match us, hl with | [_], _ => rfl
  have kM := F.known (w := w) (base := base) X G (x := "makes_term") (i := 14) (by decide +kernel) (ok_makes (F.fun_ (by decide +kernel)) B C kW) fun _ _ _ _ _ _ us hl => match us, hl with | [_, _], _ => rfl
  have kT := F.ckT (w := w) (base := base) X G (ok_ckt F.fund kM)
  have kE := F.known (w := w) (base := base) X G (x := "ends_of") (i := 16) (by decide +kernel) (ok_ends (F.fun_ (by decide +kernel)) B) fun _ _ _ _ _ _ us hl => match us, hl with | [_, _], _ => rfl
  have kPP := F.known (w := w) (base := base) X G (x := "part_places") (i := 17) (by decide +kernel) (ok_pp (F.fun_ (by decide +kernel)) B) fun _ _ _ _ _ _ us hl => match us, hl with | [_, _, _, _], _ => rfl
  have kSp := F.known (w := w) (base := base) X G (x := "split_term") (i := 18) (by decide +kernel) (ok_split (F.fun_ (by decide +kernel)) kE kPP) fun _ _ _ _ _ _ us hl => match us, hl with | [_, _], _ => rfl
  have kPa := F.known (w := w) (base := base) X G (x := "parts_of") (i := 19) (by decide +kernel) (ok_parts (F.fun_ (by decide +kernel)) kCS kT kSp) fun _ _ _ _ _ _ us hl => match us, hl with | [_, _], _ => rfl
  have kY := F.known (w := w) (base := base) X G (x := "order_key") (i := 20) (by decide +kernel) (ok_key (F.fun_ (by decide +kernel)) B) fun _ _ _ _ _ _ us hl => match us, hl with | [_], _ => rfl
  have kG := F.known (w := w) (base := base) X G (x := "gathered") (i := 21) (by decide +kernel) (ok_gath (F.fun_ (by decide +kernel)) B hL hS kE kY) fun _ _ _ _ _ _ us hl => match us, hl with | [_, _, _], _ => rfl
  have kI := F.known (w := w) (base := base) X G (x := "inner") (i := 22) (by decide +kernel) (ok_inner (F.fun_ (by decide +kernel)) kCS kT kG) fun _ _ _ _ _ _ us hl => match us, hl with | [_, _], _ => rfl
  have kD := F.known (w := w) (base := base) X G (x := "depth") (i := 23) (by decide +kernel) (ok_depth (F.fun_ (by decide +kernel)) B kCS kT kE kPP) fun _ _ _ _ _ _ us hl => match us, hl with | [_, _], _ => rfl
  have kO := F.ord_ (w := w) (base := base) X G (ok_ord (F.fun_ (by decide +kernel)) B hL hE hS kCS kT kY)
  have lC := F.known (w := w) (base := base) X G (x := "_law_cell_at") (i := 26) (by decide +kernel) (ok_cell (F.fun_ (by decide +kernel)) B) fun _ _ _ _ _ _ us hl => match us, hl with | [_, _], _ => rfl
  have lP := F.known (w := w) (base := base) X G (x := "_law_pot") (i := 27) (by decide +kernel) (ok_pot (F.fun_ (by decide +kernel)) B) fun _ _ _ _ _ _ us hl => match us, hl with | [_], _ => rfl
  have lT := F.known (w := w) (base := base) X G (x := "_law_take") (i := 28) (by decide +kernel) (ok_take (F.fun_ (by decide +kernel))) fun _ _ _ _ _ _ us hl => match us, hl with | [_, _], _ => rfl
  have lMi := F.known (w := w) (base := base) X G (x := "_law_mixed") (i := 29) (by decide +kernel) (ok_mix (F.fun_ (by decide +kernel)) B hL lT) fun _ _ _ _ _ _ us hl => match us, hl with | [_, _], _ => rfl
  have lN := F.known (w := w) (base := base) X G (x := "_law_name") (i := 30) (by decide +kernel) (ok_nam (F.fun_ (by decide +kernel)) B lT) fun _ _ _ _ _ _ us hl => match us, hl with | [_], _ => rfl
  have lK := F.known (w := w) (base := base) X G (x := "_law_kinds") (i := 31) (by decide +kernel) (ok_kinds (F.fun_ (by decide +kernel)) B lT lN) fun _ _ _ _ _ _ us hl => match us, hl with | [_], _ => rfl
  have lM := F.known (w := w) (base := base) X G (x := "_law_term") (i := 32) (by decide +kernel) (ok_term (F.fun_ (by decide +kernel)) B lT) fun _ _ _ _ _ _ us hl => match us, hl with | [_, _, _], _ => rfl
  have lE := F.known (w := w) (base := base) X G (x := "_law_end") (i := 33) (by decide +kernel) (ok_end (F.fun_ (by decide +kernel))) fun _ _ _ _ _ _ us hl => match us, hl with | [_, _, _], _ => rfl
  have lB := F.known (w := w) (base := base) X G (x := "_law_below") (i := 34) (by decide +kernel) (ok_bel (F.fun_ (by decide +kernel)) B lE) fun _ _ _ _ _ _ us hl => match us, hl with | [_, _], _ => rfl
  have lO := F.known (w := w) (base := base) X G (x := "_law_ordered") (i := 35) (by decide +kernel) (ok_orl (F.fun_ (by decide +kernel)) B hS) fun _ _ _ _ _ _ us hl => match us, hl with | [_], _ => rfl
  have lI := F.known (w := w) (base := base) X G (x := "_law_inner") (i := 36) (by decide +kernel) (ok_inl (F.fun_ (by decide +kernel)) B hS lE lO) fun _ _ _ _ _ _ us hl => match us, hl with | [_, _], _ => rfl
  have lPo := F.known (w := w) (base := base) X G (x := "_law_pool") (i := 37) (by decide +kernel) (ok_pool (F.fun_ (by decide +kernel)) B lT lM) fun _ _ _ _ _ _ us hl => match us, hl with | [_, _, _, _], _ => rfl
  have lD := F.known (w := w) (base := base) X G (x := "_law_depth") (i := 38) (by decide +kernel) (ok_dpl (F.fun_ (by decide +kernel)) lB) fun _ _ _ _ _ _ us hl => match us, hl with | [_, _], _ => rfl
  exact ok_law (fa := fad K) (da := dad K) (F.fun_ (by decide +kernel)) ⟨lC, lP, lT, lMi, lK, lM, lB, lO, lI, lPo, lD, kPa, kI, kD, kO, B, hL⟩
end
end K3
namespace K3
theorem walk {l : PySem.W.OpenLaw} {q : PySem.Program} {loose : List PySem.Str} {XP : (PySem.Str → Option PySem.Value) → PySem.Heap → Prop} {YP : PySem.World → PySem.Heap → Prop} {d : PySem.DefRec} {K : PySem.Params → PySem.W.Frag} (hn : l.most = some 63) (hdf : d.params.defaults = [])
    (hY : ∀ (w : PySem.World) (h : PySem.Heap), YP w h → (K w.params).In h)
    (F : ∀ (w : PySem.World) (mg : PySem.Str → Option PySem.Value) (fa : PySem.Addr) (h : PySem.Heap), (K w.params).In h → h.Ns PySem.mainGlobals mg → mg d.name = some (.ref fa) →
      ∃ fd : PySem.FuncData, (∀ (s : PySem.Shared) (u : PySem.Value), PySem.BindsTo s fd ⟨[u], []⟩ [("_law_script", u)]) ∧ ∀ base : PySem.Heap, (K w.params).In base → base.Ns PySem.mainGlobals mg → L2.FnOk l.prog w (K w.params) mg base L2.CX0 7 fa fd ["_law_script"] (spLaw (K w.params))) :
    PySem.W.WalkO q loose XP YP l.row.toRowW d [] (fun f vs => PySem.call f vs) :=
  L2.walk_of (n := 63) (k := 7) (x := "_law_script") (CX := fun _ => L2.CX0) (sp := fun w => spLaw (K w.params)) hn (by decide) hdf ⟨rfl, fun _ => rfl, by decide, by decide⟩ hY F (fun _ _ a ns hl _ hS => ⟨a, ns, rfl, hS, hl, fun _ => rfl⟩) fun _ _ _ _ _ z => z
end K3


set_option Elab.async false
set_option linter.all false
open PySem PySem.W PyProof.Rows
set_option maxRecDepth 100000 in
set_option maxHeartbeats 0 in
theorem PySem.Challenge.cw_likenest_k03_parts_inner_terms_depth_ord_holds : PySem.Challenge.rw_likenest_k03_parts_inner_terms_depth_ord.Holds := by
  w_on; o_law; k_head; (case hw => w_witness2)
  k_fill
  refine K3.walk (l := PySem.Challenge.rw_likenest_k03_parts_inner_terms_depth_ord) rfl rfl (fun w h Y => PySem.W.kIn_of Y) ?F
  case F =>
    intro w mg fa h KX G hmg
    refine K3.all_mk (l := PySem.Challenge.rw_likenest_k03_parts_inner_terms_depth_ord) ?facts KX G hmg
    case facts => constructor <;> kernel_rfl


