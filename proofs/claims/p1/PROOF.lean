import PyProof.Rows.All
import Wide.All
import OpenK.AllK
import Wide.FinOn
import PyProof.EqAt
import PyProof.EqKinds
import PyProof.TupleCall
import KE.BitLaws
import Open.SpecLaws
import KE.OsHead
import KE.OsGo
import PyFlatLaws
import PySem.Challenge.RW_narrowtokens_s01_answers
section
set_option Elab.async false
set_option linter.all false
set_option maxRecDepth 100000
/-! THE HAND LAYER, for ints, bools, texts, own classes, lists, tuples, dicts, comprehensions, walks over dicts, enumerate, zip, reversed, texts, calls, loops. Paste it whole ahead of your own text; what your proof does not reach may be deleted. -/
namespace L2
open PySem PySem.Spec PyProof.Rows

/-- a key: an int or a str -/
abbrev Key := Sum Int Str
def keyIs : Key → Value → Bool
  | .inl k, v => Value.isInt k v
  | .inr x, v => Value.isStrOf x v
def keyH (w : World) : Key → Int
  | .inl k => hashInt k
  | .inr x => hashStr w x
theorem keyIs_shape : ∀ {k : Key} {v : Value}, keyIs k v = true → (∃ i t, k = Sum.inl i ∧ v = Value.int i t) ∨ (∃ x t, k = Sum.inr x ∧ v = Value.str x t)
  | .inl i, v, h => by
    obtain ⟨t, e⟩ := Value.isInt_shape (k := i) (v := v) h
    exact .inl ⟨i, t, rfl, e⟩
  | .inr x, v, h => by
    obtain ⟨t, e⟩ := Value.isStrOf_shape (x := x) (v := v) h
    exact .inr ⟨x, t, rfl, e⟩
theorem keyIs_int (i : Int) (t : Tok) : keyIs (.inl i) (.int i t) = true := by simp [keyIs, Value.isInt]
theorem keyIs_str (x : Str) (t : Tok) : keyIs (.inr x) (.str x t) = true := by simp [keyIs, Value.isStrOf]
theorem key_ll (a b : Int) : decide ((Sum.inl a : Key) = Sum.inl b) = (a == b) := by
  by_cases e : a = b
  · subst e; simp
  · have h : ¬ (Sum.inl a : Key) = Sum.inl b := fun q => e (Sum.inl.inj q)
    rw [decide_eq_false h]
    exact (beq_eq_false_iff_ne.mpr e).symm
theorem key_rr (a b : Str) : decide ((Sum.inr a : Key) = Sum.inr b) = decide (a = b) := by
  by_cases e : a = b
  · subst e; simp
  · have h : ¬ (Sum.inr a : Key) = Sum.inr b := fun q => e (Sum.inr.inj q)
    rw [decide_eq_false h, decide_eq_false e]
theorem key_lr (a : Int) (b : Str) : decide ((Sum.inl a : Key) = Sum.inr b) = false := decide_eq_false (fun q => nomatch q)
theorem key_rl (a : Str) (b : Int) : decide ((Sum.inr a : Key) = Sum.inl b) = false := decide_eq_false (fun q => nomatch q)

def mixKind (prog : Program) (w : World) : PySem.KeyKind prog w Key where
  is := keyIs
  hash := keyH w
  inj := fun v a b ha hb => by
    rcases keyIs_shape ha with ⟨i, t, rfl, rfl⟩ | ⟨x, t, rfl, rfl⟩
    · rcases keyIs_shape hb with ⟨j, u, rfl, e⟩ | ⟨y, u, rfl, e⟩
      · injection e with e1 _; rw [e1]
      · exact nomatch e
    · rcases keyIs_shape hb with ⟨j, u, rfl, e⟩ | ⟨y, u, rfl, e⟩
      · exact nomatch e
      · injection e with e1 _; rw [e1]
  byValue := fun k v h => by
    rcases keyIs_shape h with ⟨i, t, rfl, rfl⟩ | ⟨x, t, rfl, rfl⟩ <;> rfl
  pyHash := fun hv h => by
    rcases keyIs_shape hv with ⟨i, t, rfl, rfl⟩ | ⟨x, t, rfl, rfl⟩
    · exact wpAny_pyHash_int h
    · exact wpAny_pyHash_str h
  eqBool := fun hu hv h => by
    rcases keyIs_shape hu with ⟨i, t, rfl, rfl⟩ | ⟨x, t, rfl, rfl⟩
    · rcases keyIs_shape hv with ⟨j, u, rfl, rfl⟩ | ⟨y, u, rfl, rfl⟩
      · rw [key_ll] at h; exact wpAny_eqBool_int h
      · rw [key_lr] at h; exact SeqAt.EqAt.int_str i t y u _ _ _ _ h
    · rcases keyIs_shape hv with ⟨j, u, rfl, rfl⟩ | ⟨y, u, rfl, rfl⟩
      · rw [key_rl] at h; exact SeqAt.EqAt.str_int x t j u _ _ _ _ h
      · rw [key_rr] at h; exact wpAny_eqBool_str h
  «strs» := fun k x t v h => by
    rcases keyIs_shape h with ⟨i, u, rfl, e⟩ | ⟨y, u, rfl, e⟩
    · exact nomatch e
    · injection e with e1 _
      subst e1
      cases v <;> rfl

theorem mixKind_int (prog : Program) (w : World) (i : Int) (t : Tok) : (mixKind prog w).is (.inl i) (.int i t) = true := keyIs_int i t
theorem mixKind_str (prog : Program) (w : World) (x : Str) (t : Tok) : (mixKind prog w).is (.inr x) (.str x t) = true := keyIs_str x t
end L2

namespace L2
open PySem PySem.Spec PyProof.Rows

/-- a value, without the heap -/
inductive V where
  | non | bl (b : Bool) | int (i : Int) | str (x : Str) | byt (b : Array UInt8) | flt (b : UInt64) | ref (a : Addr) | ty (n : String)
  deriving DecidableEq

def RelV : V → Value → Prop
  | .non, u => u = Value.none
  | .bl b, u => u = Value.bool b
  | .int i, u => ∃ t, u = Value.int i t
  | .str x, u => ∃ t, u = Value.str x t
  | .byt b, u => ∃ t, u = Value.bytes b t
  | .flt b, u => ∃ t, u = Value.float b t
  | .ref a, u => u = Value.ref a
  | .ty n, u => u = Value.type n

abbrev Vals : List V → List Value → Prop := Paired RelV
theorem Vals.length {xs : List V} {us : List Value} (r : Vals xs us) : xs.length = us.length := Paired.length r
theorem Vals.get : ∀ {xs : List V} {us : List Value} {i : Nat} {x : V}, Vals xs us → xs[i]? = some x → ∃ u, us[i]? = some u ∧ RelV x u
  | _, _, _, _, .nil, e => by simp at e
  | _, _, 0, _, .cons r _, e => by simp at e; subst e; exact ⟨_, rfl, r⟩
  | _, _, i + 1, x, .cons _ t, e => by
    obtain ⟨u, h1, h2⟩ := Vals.get (i := i) (x := x) t (by simpa using e)
    exact ⟨u, by simpa using h1, h2⟩
theorem Vals.append : ∀ {xs ys : List V} {us ws : List Value}, Vals xs us → Vals ys ws → Vals (xs ++ ys) (us ++ ws)
  | _, _, _, _, .nil, s => s
  | _, _, _, _, .cons r t, s => .cons r (Vals.append t s)
theorem Vals.take : ∀ {xs : List V} {us : List Value} (n : Nat), Vals xs us → Vals (xs.take n) (us.take n)
  | _, _, 0, _ => .nil
  | _, _, _ + 1, .nil => .nil
  | _, _, n + 1, .cons r t => .cons r (Vals.take n t)
theorem Vals.drop : ∀ {xs : List V} {us : List Value} (n : Nat), Vals xs us → Vals (xs.drop n) (us.drop n)
  | _, _, 0, r => r
  | _, _, _ + 1, .nil => .nil
  | _, _, n + 1, .cons _ t => Vals.drop n t

def RelO : Option V → Option Value → Prop
  | some v, some u => RelV v u
  | none, none => True
  | _, _ => False
def KV {κ : Type} : List (κ × V) → List (κ × Value) → Prop := Paired fun (p : κ × V) (q : κ × Value) => p.1 = q.1 ∧ RelV p.2 q.2

/-- a key of a dict (00_mix): an int or a text -/
def kV : Key → V
  | .inl i => .int i
  | .inr x => .str x

/-- what stands at a tracked address -/
inductive HO where
  /-- a list -/
  | lst (xs : List V)
  /-- a tuple (never changes) -/
  | tup (xs : List V)
  /-- a dict whose keys are ints and texts; one whose keys are tuples of ints and texts (the empty one is both) -/
  | dK (kvs : List (Key × V)) | dT (kvs : List (List Key × V))
  /-- a set of ints: its members, its size -/
  | set (S : Int → Bool) (n : Nat)
  /-- an instance of the class at C, its dict at dx, its attributes -/
  | ins (C dx : Addr) (fs : List (Str × V))
  /-- the dict of the instance at x -/
  | own (x : Addr)
  /-- the dict of an exception -/
  | xd (fs : List (Str × V))
  /-- a bound method, f of x -/
  | met (f x : Addr)
  /-- a range object lo, lo + 1, .. below hi -/
  | rng (lo hi : Int)
  /-- a thing that is known to the object (the script; a dict while a loop walks it): read, never written while it is so -/
  | frz (o : Obj) (u : HO)
  /-- a code object's table -/
  | tbl (ps : Array Value)
  /-- any other thing, by what is true of its one object (a def of one's own: SetO a S n := HO.ext fun h => ..) -/
  | ext (φ : Heap → Prop)

abbrev Hp := Addr → Option HO
def upd (H : Hp) (a : Addr) (o : HO) : Hp := fun b => if b = a then some o else H b
theorem upd_same {H : Hp} {a : Addr} {o : HO} : upd H a o a = some o := by unfold upd; rw [if_pos rfl]
theorem upd_ne {H : Hp} {a b : Addr} {o : HO} (h : b ≠ a) : upd H a o b = H b := by unfold upd; rw [if_neg h]
theorem upd_upd {H : Hp} {a : Addr} {o u : HO} : upd (upd H a o) a u = upd H a u := by
  funext b; unfold upd; split <;> rfl
/-- two objects of different content stand apart -/
theorem ne_of {H : Hp} {a b : Addr} {o u : HO} (h : H a = some o) (h' : H b = some u) (d : o ≠ u) : a ≠ b := by
  intro e; subst e; rw [h] at h'; exact d (Option.some.inj h')
theorem ne_of_none {H : Hp} {a b : Addr} {o : HO} (h : H a = some o) (h' : H b = none) : a ≠ b := by
  intro e; subst e; rw [h] at h'; cases h'

section
variable (P : Program) (w : World)
def ObjOk (H : Hp) (h : Heap) (a : Addr) : HO → Prop
  | .lst xs => xs.length ≤ sizeLine ∧ ∃ (its : List Value) (n : Nat), Vals xs its ∧ h.get? a = some { cls := .type "list", data := .seq its.toArray n }
  | .tup xs => xs.length ≤ sizeLine ∧ ∃ its : List Value, Vals xs its ∧ IsTup h a its.toArray
  | .dK kvs => kvs.length ≤ sizeLine ∧ (a == sysModules) = false ∧ ∃ vs, KV kvs vs ∧ h.DictOf (mixKind P w) a vs
  | .dT kvs => kvs.length ≤ sizeLine ∧ (a == sysModules) = false ∧ ∃ xs : List (List Key × Addr × Value),
      Paired (fun (p : List Key × V) (q : List Key × Addr × Value) => p.1 = q.1 ∧ H q.2.1 = some (.tup (p.1.map kV)) ∧ RelV p.2 q.2.2) kvs xs ∧
      ∃ o es ep, h.get? a = some o ∧ o.ExactDict ∧ o.data = .dict es ep ∧ es.toList = xs.map (entryOfKey (tupleKind (mixKind P w))) ∧ (xs.map (·.1)).Nodup
  | .set S n => h.SetOf (intKind P w) a S n
  | .ins C dx fs => H dx = some (.own a) ∧ fs.length ≤ 1000 ∧ dx ≠ a ∧ h.get? a = some (PySem.W.instObj C dx) ∧
      ∃ mA, h.Ns1 dx mA ∧ (∀ f, RelO (fs.lookup f) (mA f)) ∧ PySem.Within mA (fs.map (·.1))
  | .own _ => ∃ o, h.get? a = some o
  | .xd fs => ∃ mA, h.Ns1 a mA ∧ ∀ f, RelO (fs.lookup f) (mA f)
  | .rng lo hi => ∃ t u v, h.get? a = some { cls := .type "range", data := .fields #[.int lo t, .int hi u, .int 1 v] }
  | .frz o u => h.get? a = some o ∧ ObjOk H h a u
  | .tbl ps => h.get? a = some { cls := .none, data := .fields ps }
  | .met f x => h.get? a = some (PySem.W.methodObj (.ref f) (.ref x))
  | .ext φ => φ h ∧ (∃ o, h.get? a = some o) ∧ ∀ h1 h2 : Heap, φ h1 → (∀ o, h1.get? a = some o → h2.get? a = some o) → φ h2
/-- the abstract heap is held -/
def HOk (H : Hp) (h : Heap) : Prop := ∀ a o, H a = some o → ObjOk P w H h a o
end

section
variable {P : Program} {w : World} {H H' : Hp} {h h' : Heap} {a : Addr} {o : HO}
theorem ObjOk.lt (x : ObjOk P w H h a o) : a < h.objs.size := by
  cases o with
  | lst xs => obtain ⟨_, _, _, _, e⟩ := x; exact Heap.lt_size e
  | tup xs => obtain ⟨_, _, _, p⟩ := x; exact p.lt
  | dK kvs => obtain ⟨_, _, _, _, o, _, _, e, _⟩ := x; exact Heap.lt_size e
  | dT kvs => obtain ⟨_, _, _, _, o, _, _, e, _⟩ := x; exact Heap.lt_size e
  | set S n => obtain ⟨o, _, _, _, e, _⟩ := x; exact Heap.lt_size e
  | ins C dx fs => obtain ⟨_, _, _, e, _⟩ := x; exact Heap.lt_size e
  | own y => obtain ⟨_, e⟩ := x; exact Heap.lt_size e
  | xd fs => obtain ⟨_, ⟨_, _, _, e, _⟩, _⟩ := x; exact Heap.lt_size e
  | rng lo hi => obtain ⟨_, _, _, e⟩ := x; exact Heap.lt_size e
  | frz ob u => obtain ⟨e, _⟩ := x; exact Heap.lt_size e
  | tbl ps => exact Heap.lt_size (show h.get? a = some _ from x)
  | met f y => exact Heap.lt_size (show h.get? a = some _ from x)
  | ext φ => obtain ⟨_, ⟨_, e⟩, _⟩ := x; exact Heap.lt_size e
theorem Paired.mapP {α β : Type} {F G : α → β → Prop} : ∀ {l₁ : List α} {l₂ : List β}, Paired F l₁ l₂ → (∀ a b, F a b → G a b) → Paired G l₁ l₂
  | _, _, .nil, _ => .nil
  | _, _, .cons r t, f => .cons (f _ _ r) (Paired.mapP t f)
/-- what an object's description leans on: its own object, its own dict, the tuples -/
theorem ObjOk.stay (x : ObjOk P w H h a o) (k : ∀ b u, (b = a ∨ H b = some (.own a)) → h.get? b = some u → h'.get? b = some u)
    (ho : ∀ b, H b = some (.own a) → H' b = some (.own a)) (ht : ∀ b xs, H b = some (.tup xs) → H' b = some (.tup xs)) : ObjOk P w H' h' a o := by
  induction o with
  | lst xs => obtain ⟨z, its, n, r, e⟩ := x; exact ⟨z, its, n, r, k _ _ (.inl rfl) e⟩
  | tup xs => obtain ⟨z, its, r, ob, e, c⟩ := x; exact ⟨z, its, r, ob, k _ _ (.inl rfl) e, c⟩
  | dK kvs => obtain ⟨z, y, vs, r, ob, es, ep, e, c⟩ := x; exact ⟨z, y, vs, r, ob, es, ep, k _ _ (.inl rfl) e, c⟩
  | dT kvs =>
    obtain ⟨z, y, xs, r, ob, es, ep, e, c⟩ := x
    exact ⟨z, y, xs, Paired.mapP r fun p q z => ⟨z.1, ht _ _ z.2.1, z.2.2⟩, ob, es, ep, k _ _ (.inl rfl) e, c⟩
  | set S n => obtain ⟨ob, es, ep, t, e, c⟩ := x; exact ⟨ob, es, ep, t, k _ _ (.inl rfl) e, c⟩
  | ins C dx fs =>
    obtain ⟨d, z, ne, e, mA, ⟨od, es, ep, e2, c⟩, r⟩ := x
    exact ⟨ho _ d, z, ne, k _ _ (.inl rfl) e, mA, ⟨od, es, ep, k _ _ (.inr d) e2, c⟩, r⟩
  | own y => obtain ⟨ob, e⟩ := x; exact ⟨ob, k _ _ (.inl rfl) e⟩
  | xd fs => obtain ⟨mA, ⟨od, es, ep, e, c⟩, r⟩ := x; exact ⟨mA, ⟨od, es, ep, k _ _ (.inl rfl) e, c⟩, r⟩
  | rng lo hi => obtain ⟨t, u, v, e⟩ := x; exact ⟨t, u, v, k _ _ (.inl rfl) e⟩
  | frz ob u ih => obtain ⟨e, q⟩ := x; exact ⟨k _ _ (.inl rfl) e, ih q⟩
  | tbl ps =>
    have e : h.get? a = some { cls := .none, data := .fields ps } := x
    show h'.get? a = some { cls := .none, data := .fields ps }
    exact k a _ (.inl rfl) e
  | met f y =>
    have e : h.get? a = some (PySem.W.methodObj (.ref f) (.ref y)) := x
    show h'.get? a = some (PySem.W.methodObj (.ref f) (.ref y))
    exact k a _ (.inl rfl) e
  | ext φ => obtain ⟨p, ⟨o, e⟩, st⟩ := x; exact ⟨st _ _ p fun o q => k _ _ (.inl rfl) q, ⟨o, k _ _ (.inl rfl) e⟩, st⟩
theorem HOk.lt (x : HOk P w H h) (e : H a = some o) : a < h.objs.size := (x a o e).lt
theorem HOk.fresh (x : HOk P w H h) (e : h.objs.size ≤ a) : H a = none := by
  cases q : H a with
  | none => rfl
  | some u => exact absurd (Nat.lt_of_lt_of_le (x.lt q) e) (Nat.lt_irrefl _)
/-- every object of the heap is kept -/
theorem HOk.kept (x : HOk P w H h) (k : ∀ b u, h.get? b = some u → h'.get? b = some u) : HOk P w H h' := fun a o e =>
  (x a o e).stay (fun b u _ q => k b u q) (fun _ q => q) fun _ _ q => q
/-- a new object is laid and tracked -/
theorem HOk.laid (x : HOk P w H h) (k : ∀ b u, h.get? b = some u → h'.get? b = some u) (hp : h.objs.size ≤ a) (new : ObjOk P w (upd H a o) h' a o) : HOk P w (upd H a o) h' := fun b u e => by
  have hn := x.fresh hp
  by_cases hb : b = a
  · subst hb; rw [upd_same] at e; cases e; exact new
  · rw [upd_ne hb] at e
    exact (x b u e).stay (fun c v _ q => k c v q) (fun c q => by rw [upd_ne (ne_of_none q hn)]; exact q) fun c xs q => by rw [upd_ne (ne_of_none q hn)]; exact q
end

/-- what may be read as u: it is u, or a known u -/
def Rd (H : Hp) (a : Addr) (u : HO) : Prop := H a = some u ∨ ∃ o, H a = some (.frz o u)
theorem Rd.ok {P : Program} {w : World} {H : Hp} {h : Heap} {a : Addr} {u : HO} (r : Rd H a u) (x : HOk P w H h) : ObjOk P w H h a u := by
  rcases r with r | ⟨o, r⟩
  · exact x a u r
  · obtain ⟨_, q⟩ := x a _ r
    exact q
/-- what may be written -/
def Mut : Option HO → Prop
  | some (.lst _) => True
  | some (.dK _) => True
  | some (.dT _) => True
  | some (.set _ _) => True
  | some (.ins _ _ _) => True
  | some (.ext _) => True
  | _ => False
section
variable {P : Program} {w : World} {H : Hp} {h h' : Heap} {x e : Addr} {o' : HO}
/-- the object at e is changed: x itself, or the dict of the instance x -/
theorem HOk.write (ok : HOk P w H h) (mu : Mut (H x)) (he : e = x ∨ H e = some (.own x)) (k : ∀ b u, b ≠ e → h.get? b = some u → h'.get? b = some u) (heo : ∃ u, h'.get? e = some u)
    (new : ObjOk P w (upd H x o') h' x o') : HOk P w (upd H x o') h' := fun b u q => by
  have nown : ∀ c y, H c = some (.own y) → c ≠ x := fun c y r z => by subst z; rw [r] at mu; exact mu
  have ntup : ∀ c xs, H c = some (.tup xs) → c ≠ x := fun c xs r z => by subst z; rw [r] at mu; exact mu
  by_cases hb : b = x
  · subst hb; rw [upd_same] at q; cases q; exact new
  · rw [upd_ne hb] at q
    by_cases hbe : b = e
    · have q' : H b = some (.own x) := by
        rcases he with z | z
        · exact absurd (hbe.trans z) hb
        · rw [hbe]; exact z
      rw [q] at q'; cases q'
      obtain ⟨v, hv⟩ := heo
      exact ⟨v, by rw [hbe]; exact hv⟩
    · refine (ok b u q).stay (fun c v hc r => k c v ?_ r) (fun c r => by rw [upd_ne (nown c b r)]; exact r) fun c xs r => by rw [upd_ne (ntup c xs r)]; exact r
      rcases hc with rfl | hc
      · exact hbe
      · rintro rfl
        rcases he with z | z
        · exact nown c b hc z
        · rw [hc] at z; cases z; exact hb rfl
end

/-! ### kept unless tracked; of the frames at fs (the callers') the slots may change (an exception that passes writes there); of the records at ex (iterators) nothing is said -/
structure Un (fs ex : List Addr) (H H' : Hp) (h h' : Heap) : Prop where
  keep : ∀ b o, h.get? b = some o → H b = none → b ∉ fs → b ∉ ex → h'.get? b = some o
  slot : ∀ b o, h.get? b = some o → H b = none → b ∈ fs → b ∉ ex → ∃ sl, h'.get? b = some { o with slots := sl }
  free : ∀ b o, h.get? b = some o → H b = none → b ∉ ex → H' b = none
  there : ∀ b o, h.get? b = some o → b ∉ ex → ∃ o', h'.get? b = some o'
  tups : ∀ b xs, H b = some (.tup xs) → H' b = some (.tup xs)
  frzs : ∀ b o u, H b = some (.frz o u) → H' b = some (.frz o u)
  tbls : ∀ b ps, H b = some (.tbl ps) → ∃ more, H' b = some (.tbl (ps ++ more))
section
variable {fs fs' ex ex' : List Addr} {H H1 H2 : Hp} {h h1 h2 h' : Heap} {a x e : Addr} {o : HO}
theorem Un.any (u : Un fs ex H H1 h h1) {b : Addr} {ob : Obj} (q : h.get? b = some ob) (n : H b = none) (hx : b ∉ ex) : ∃ sl, h1.get? b = some { ob with slots := sl } := by
  by_cases hb : b ∈ fs
  · exact u.slot b ob q n hb hx
  · exact ⟨ob.slots, u.keep b ob q n hb hx⟩
theorem Un.kept (k : ∀ b u, h.get? b = some u → h'.get? b = some u) : Un fs ex H H h h' :=
  ⟨fun b ob q _ _ _ => k b ob q, fun b ob q _ _ _ => ⟨ob.slots, k b ob q⟩, fun _ _ _ n _ => n, fun b ob q _ => ⟨ob, k b ob q⟩, fun _ _ q => q, fun _ _ _ q => q, fun _ ps q => ⟨#[], by rw [q]; simp⟩⟩
theorem Un.refl : Un fs ex H H h h := Un.kept fun _ _ q => q
theorem Un.laid (k : ∀ b u, h.get? b = some u → h'.get? b = some u) (hp : h.objs.size ≤ a) (hn : H a = none) : Un fs ex H (upd H a o) h h' where
  keep := fun b u q _ _ _ => k b u q
  slot := fun b u q _ _ _ => ⟨u.slots, k b u q⟩
  free := fun b u q n _ => by rw [upd_ne (Nat.ne_of_lt (Nat.lt_of_lt_of_le (Heap.lt_size q) hp))]; exact n
  there := fun b u q _ => ⟨u, k b u q⟩
  tups := fun b xs q => by rw [upd_ne (ne_of_none q hn)]; exact q
  frzs := fun b u xs q => by rw [upd_ne (ne_of_none q hn)]; exact q
  tbls := fun b ps q => ⟨#[], by rw [upd_ne (ne_of_none q hn), q]; simp⟩
theorem Un.write (mu : Mut (H x)) (he : e = x ∨ H e = some (.own x)) (k : ∀ b u, b ≠ e → h.get? b = some u → h'.get? b = some u) (heo : ∃ u, h'.get? e = some u) : Un fs ex H (upd H x o) h h' := by
  have hx : ∀ b, H b = none → b ≠ x := fun b n z => by subst z; rw [n] at mu; exact mu
  have hb : ∀ b, H b = none → b ≠ e := fun b n z => by
    subst z
    rcases he with r | r
    · exact hx b n r
    · rw [n] at r; cases r
  have hm : ∀ b u, H b = some u → ¬ Mut (some u) → b ≠ x := fun b u q nm z => by subst z; rw [q] at mu; exact nm mu
  refine ⟨fun b u q n _ _ => k b u (hb b n) q, fun b u q n _ _ => ⟨u.slots, k b u (hb b n) q⟩, fun b u q n _ => by rw [upd_ne (hx b n)]; exact n, fun b u q _ => ?_,
    fun b xs q => by rw [upd_ne (hm b _ q fun z => z)]; exact q, fun b u xs q => by rw [upd_ne (hm b _ q fun z => z)]; exact q, fun b ps q => ⟨#[], by rw [upd_ne (hm b _ q fun z => z), q]; simp⟩⟩
  by_cases hbe : b = e
  · subst hbe; exact heo
  · exact ⟨u, k b u hbe q⟩
end

/-! ### the heap without what is tracked -/
def trk (h : Heap) (H : Hp) : List Addr := (List.range h.objs.size).filter fun a => (H a).isSome
def hidT (h : Heap) (H : Hp) : Heap := PySem.W.hideAll h (trk h H)
theorem hidT_size (h : Heap) (H : Hp) : (hidT h H).objs.size = h.objs.size := PySem.W.hideAll_size _ _
theorem hidT_get {h : Heap} {H : Hp} {b : Addr} {o : Obj} (e : h.get? b = some o) (n : H b = none) : (hidT h H).get? b = some o :=
  PySem.W.hideAll_get _ e fun hm => by
    have q : (H b).isSome = true := (List.mem_filter.mp hm).2
    rw [n] at q; simp at q
theorem of_hidT {h : Heap} {H : Hp} {b : Addr} {o : Obj} (e : (hidT h H).get? b = some o) : h.get? b = some o ∧ H b = none := by
  have e' : h.get? b = some o := PySem.W.of_hideAll (trk h H) e
  refine ⟨e', ?_⟩
  cases q : H b with
  | none => rfl
  | some x =>
    have hm : b ∈ trk h H := List.mem_filter.mpr ⟨List.mem_range.mpr (Heap.lt_size e'), by simp [q]⟩
    have z : (hidT h H).get? b = none := PySem.W.hideAll_none (trk h H) hm
    rw [z] at e; cases e

/-! ### OpenK's ledger, filled with every new object but one -/
end L2

namespace L2
open PySem PySem.Spec PyProof.Rows

/-- the module's facts, over the base: the heap at the law's entry without what is tracked there -/
structure Mod (K : PySem.W.Frag) (mg : Str → Option Value) (base : Heap) : Prop where
  kin : K.In base
  glob : base.Ns mainGlobals mg
  blt : ∃ mb, base.Ns builtinsNs mb ∧ ∀ x : Str, x ≠ "__name__" → mb x = bootBuiltins x
  nolimit : base.NoLimit

/-- the context: a def's body (or a comprehension's block) running. base: fixed through the whole law; s₀, H₀: the entry; outer: the frames whose slots others may change (a def's callers); stack: all frames that run;
   ex: iterators that were made ahead of the entry and are walked here (a comprehension's); fn: the names whose cells were made at the entry (a def: all; a comprehension's block: its own); calm: not within an except suite; pn: pins that every state bears; xe: what is wanted of an exception that leaves the code -/
structure Cx where
  prog : Program
  w : World
  K : PySem.W.Frag
  mg : Str → Option Value
  base : Heap
  A : Around
  N : List Str
  s_0 : Shared
  H_0 : Hp
  env : Env
  outer : List Env
  stack : List Env
  ex : List Addr
  fn : Str → Bool
  calm : Bool
  pn : List (Addr × Obj)
  xe : Value → Shared → Prop
/-- the callers' frames -/
def frs (l : List Env) : List Addr := l.filterMap (·.frame)
abbrev Cx.fs (X : Cx) : List Addr := frs X.outer

def Vis (sc : Scope) (x : Str) : Prop := sc.names.lookup x = some .local ∨ sc.names.lookup x = some .cell ∨ sc.names.lookup x = some .free
def Loc (sc : Scope) (x : Str) : Prop := sc.names.lookup x = some .local ∨ sc.names.lookup x = some .cell
def Look (env : Env) (h : Heap) (m : Str → Option Value) (x : Str) (u : Value) : Prop :=
  (env.kindOf x = some .local ∧ m x = some u) ∨ ((env.kindOf x = some .cell ∨ env.kindOf x = some .free) ∧ ∃ c, env.cells.lookup x = some c ∧ h.IsCell c (some u))

structure Cx.Ok (X : Cx) : Prop where
  mod : Mod X.K X.mg X.base
  kind : X.env.scope.kind = .function
  glob : X.env.globals = mainGlobals
  blt : X.env.builtins = builtinsNs
  above : X.s_0.heap.objs.size ≤ X.env.locals
  inj : ∀ x y c, X.env.cells.lookup x = some c → X.env.cells.lookup y = some c → x = y
  has : ∀ x, (X.env.kindOf x = some .cell ∨ X.env.kindOf x = some .free) → ∃ c, X.env.cells.lookup x = some c
  cab : ∀ x c, X.fn x = true → X.env.cells.lookup x = some c → X.s_0.heap.objs.size ≤ c
  hd : X.calm = true → X.A.handled = none
  frames : X.A.frames = some X.stack
  stk : X.stack = X.outer ∨ (X.stack = X.env :: X.outer ∧ X.env.frame = some X.env.locals)
  exf : ∀ b ∈ X.ex, b ≠ X.env.locals ∧ ∀ x c, X.env.cells.lookup x = some c → c ≠ b
  bs : ∀ b o, X.base.get? b = some o → X.s_0.heap.get? b = some o ∧ X.H_0 b = none
  bsz : X.base.objs.size ≤ X.s_0.heap.objs.size
  noex : ∀ b o, X.base.get? b = some o → b ∉ X.ex
  exfs : ∀ b ∈ X.ex, b ∉ X.fs
  funs : X.s_0.heap.FunFrames X.base X.outer
  frf : ∀ b ∈ X.fs, X.H_0 b = none

structure Inv (X : Cx) (pins : List (Addr × Obj)) (σ : List (Option V)) (H : Hp) (s : Shared) : Prop where
  ok : X.Ok
  os : s.os = X.s_0.os
  bare : AllBare s.gens
  base : Un X.fs X.ex X.H_0 H X.s_0.heap s.heap
  loc : ∃ m, s.heap.Ns X.env.locals m ∧ ∀ (i : Nat) (x : Str) (v : V), X.N[i]? = some x → σ[i]? = some (some v) → Vis X.env.scope x → ∃ u, RelV v u ∧ Look X.env s.heap m x u
  cell : ∀ x c, X.env.cells.lookup x = some c → ∃ v, s.heap.IsCell c v
  free : H X.env.locals = none
  freeC : ∀ x c, X.env.cells.lookup x = some c → H c = none
  pin : ∀ p ∈ X.pn ++ pins, s.heap.get? p.1 = some p.2 ∧ H p.1 = none ∧ p.1 ≠ X.env.locals ∧ p.1 ∉ X.fs ∧ ∀ v, p.2.data ≠ .cell v
  hok : HOk X.prog X.w H s.heap
  len : σ.length = X.N.length

section
variable {X : Cx} {pins : List (Addr × Obj)} {σ : List (Option V)} {H H' : Hp} {s : Shared} {h' : Heap}

theorem Cx.Ok.nofr (ok : X.Ok) {b : Addr} {o : Obj} (e : X.base.get? b = some o) : b ∉ X.fs := fun hb => by
  have := (ok.funs.mem hb).1
  rw [e] at this; cases this
theorem Inv.bs (I : Inv X pins σ H s) : ∀ b o, X.base.get? b = some o → s.heap.get? b = some o ∧ H b = none := fun b o e =>
  ⟨I.base.keep b o (I.ok.bs b o e).1 (I.ok.bs b o e).2 (I.ok.nofr e) (I.ok.noex b o e), I.base.free b o (I.ok.bs b o e).1 (I.ok.bs b o e).2 (I.ok.noex b o e)⟩
theorem Inv.bk (I : Inv X pins σ H s) : ∀ b o, X.base.get? b = some o → s.heap.get? b = some o := fun b o e => (I.bs b o e).1
theorem Inv.mod (I : Inv X pins σ H s) : Mod X.K X.mg X.base := I.ok.mod
theorem Inv.kIn (I : Inv X pins σ H s) : X.K.In s.heap := I.ok.mod.kin.keeps I.bk
/-- the frame over the base: for OpenK's rules (K.In X.base is I.mod.kin) -/
theorem Inv.fr (I : Inv X pins σ H s) : ∃ m, Fr X.base X.env.locals s.heap m :=
  let ⟨m, hn, _⟩ := I.loc
  ⟨m, hn, I.bk, Nat.le_trans I.ok.bsz I.ok.above⟩
theorem Inv.lt (I : Inv X pins σ H s) : X.env.locals < s.heap.objs.size := let ⟨_, hn, _⟩ := I.loc; hn.lt
theorem Inv.sz (I : Inv X pins σ H s) : X.s_0.heap.objs.size ≤ s.heap.objs.size := Nat.le_trans I.ok.above (Nat.le_of_lt I.lt)
theorem Inv.nofs (I : Inv X pins σ H s) {a : Addr} (h : s.heap.objs.size ≤ a) : a ∉ X.fs := fun hb => by
  obtain ⟨_, o, ho, _⟩ := I.ok.funs.mem hb
  exact absurd (Nat.lt_of_lt_of_le (Heap.lt_size ho) (Nat.le_trans I.sz h)) (Nat.lt_irrefl _)
theorem Inv.cne (I : Inv X pins σ H s) : ∀ x c, X.env.cells.lookup x = some c → c ≠ X.env.locals := fun x c e z => by
  obtain ⟨v, o, ho, hd⟩ := I.cell x c e
  obtain ⟨m, ⟨o', es, ep, ho', hd', _⟩, _⟩ := I.loc
  rw [z, ho'] at ho; cases ho; rw [hd'] at hd; cases hd
theorem Inv.funs (I : Inv X pins σ H s) : s.heap.FunFrames X.base X.outer := by
  have all : ∀ (l : List Env), (∀ b ∈ frs l, b ∈ X.fs) → X.s_0.heap.FunFrames X.base l → s.heap.FunFrames X.base l := by
    intro l
    induction l with
    | nil => intro _ _; trivial
    | cons env r ih =>
      intro hs hl
      obtain ⟨hk, ⟨L, o, hf, hn, ho, hd⟩, hr⟩ := hl
      have hL : L ∈ X.fs := hs L (by unfold frs; rw [List.filterMap_cons, hf]; exact List.mem_cons_self)
      obtain ⟨sl, e⟩ := I.base.slot L o ho (I.ok.frf L hL) hL fun z => I.ok.exfs L z hL
      exact ⟨hk, ⟨L, _, hf, hn, e, hd⟩, ih (fun b hb => hs b (by unfold frs; rw [List.filterMap_cons, hf]; exact List.mem_cons_of_mem _ hb)) hr⟩
  exact all X.outer (fun _ hb => hb) I.ok.funs

/-- the frames that run, for a call -/
theorem Inv.stack (I : Inv X pins σ H s) : s.heap.FunFrames X.base X.stack := by
  rcases I.ok.stk with e | ⟨e, hf⟩
  · rw [e]; exact I.funs
  · rw [e]
    obtain ⟨m, hn, _⟩ := I.loc
    refine .cons (by rw [I.ok.kind]; decide) hf hn ?_ I.funs
    exact Heap.get?_none_of_le (Nat.le_trans I.ok.bsz I.ok.above)
theorem Inv.stkSub (I : Inv X pins σ H s) : ∀ b ∈ frs X.stack, b ∈ X.env.locals :: X.fs := fun b hb => by
  rcases I.ok.stk with e | ⟨e, hf⟩
  · rw [e] at hb; exact List.mem_cons_of_mem _ hb
  · rw [e] at hb
    unfold frs at hb
    rw [List.filterMap_cons, hf] at hb
    exact hb
theorem Inv.stkFree (I : Inv X pins σ H s) : ∀ b ∈ frs X.stack, H b = none := fun b hb => by
  rcases List.mem_cons.mp (I.stkSub b hb) with e | hb
  · rw [e]; exact I.free
  · obtain ⟨_, o, ho, _⟩ := I.ok.funs.mem hb
    exact I.base.free b o ho (I.ok.frf b hb) fun z => I.ok.exfs b z hb

/-- THE STEP: the untracked objects but the frame and the records at ch are kept (the callers' frames up to slots), the frame's map is kept, the new abstract heap is held -/
theorem Inv.step {g' : Array GenState} {t' : Nat} {d' : Drawn} {ch : List Addr} (I : Inv X pins σ H s)
    (hch : ∀ b ∈ ch, (b ∈ X.ex ∨ X.s_0.heap.objs.size ≤ b) ∧ b ≠ X.env.locals ∧ (∀ x c, X.env.cells.lookup x = some c → c ≠ b) ∧ ∀ p ∈ X.pn ++ pins, p.1 ≠ b)
    (keep : ∀ b o, b ≠ X.env.locals → b ∉ X.fs → b ∉ ch → s.heap.get? b = some o → H b = none → h'.get? b = some o)
    (slot : ∀ b o, b ≠ X.env.locals → b ∈ X.fs → b ∉ ch → s.heap.get? b = some o → H b = none → ∃ sl, h'.get? b = some { o with slots := sl }) (free : ∀ b o, b ∉ ch → s.heap.get? b = some o → H b = none → H' b = none)
    (there : ∀ b o, b ∉ ch → s.heap.get? b = some o → ∃ o', h'.get? b = some o')
    (tups : ∀ b xs, H b = some (.tup xs) → H' b = some (.tup xs)) (frzs : ∀ b o u, H b = some (.frz o u) → H' b = some (.frz o u)) (tbls : ∀ b ps, H b = some (.tbl ps) → ∃ more, H' b = some (.tbl (ps ++ more)))
    (ns : ∀ m, s.heap.Ns X.env.locals m → h'.Ns X.env.locals m) (hok : HOk X.prog X.w H' h') (hg : AllBare g') :
    Inv X pins σ H' { s with heap := h', gens := g', drawn := d', toks := t' } := by
  have neL : ∀ b o, X.s_0.heap.get? b = some o → b ≠ X.env.locals := fun b o e => Nat.ne_of_lt (Nat.lt_of_lt_of_le (Heap.lt_size e) I.ok.above)
  have neC : ∀ b o, X.s_0.heap.get? b = some o → b ∉ X.ex → b ∉ ch := fun b o e hx hb => by
    rcases (hch b hb).1 with z | z
    · exact hx z
    · exact absurd (Nat.lt_of_lt_of_le (Heap.lt_size e) z) (Nat.lt_irrefl _)
  have cellK : ∀ x c, X.env.cells.lookup x = some c → ∀ v, s.heap.IsCell c v → h'.IsCell c v := fun x c e v ⟨o, ho, hd⟩ => by
    have nch : c ∉ ch := fun z => (hch c z).2.2.1 x c e rfl
    by_cases hc : c ∈ X.fs
    · obtain ⟨sl, q⟩ := slot c o (I.cne x c e) hc nch ho (I.freeC x c e)
      exact ⟨_, q, hd⟩
    · exact ⟨o, keep c o (I.cne x c e) hc nch ho (I.freeC x c e), hd⟩
  refine ⟨I.ok, I.os, hg, ⟨fun b o e n hb hx => ?_, fun b o e n hb hx => ?_, fun b o e n hx => ?_, fun b o e hx => ?_, fun b xs e => tups b xs (I.base.tups b xs e), fun b o xs e => frzs b o xs (I.base.frzs b o xs e), fun b ps e => ?_⟩, ?_, fun x c e => ?_, ?_, fun x c e => ?_, fun p hp => ?_, hok, I.len⟩
  · exact keep b o (neL b o e) hb (neC b o e hx) (I.base.keep b o e n hb hx) (I.base.free b o e n hx)
  · obtain ⟨sl, e1⟩ := I.base.slot b o e n hb hx
    obtain ⟨sl', e2⟩ := slot b _ (neL b o e) hb (neC b o e hx) e1 (I.base.free b o e n hx)
    exact ⟨sl', e2⟩
  · obtain ⟨o', e1⟩ := I.base.there b o e hx
    exact free b o' (neC b o e hx) e1 (I.base.free b o e n hx)
  · obtain ⟨o', e1⟩ := I.base.there b o e hx
    exact there b o' (neC b o e hx) e1
  · obtain ⟨m1, e1⟩ := I.base.tbls b ps e
    obtain ⟨m2, e2⟩ := tbls b _ e1
    exact ⟨m1 ++ m2, by rw [e2, Array.append_assoc]⟩
  · obtain ⟨m, hn, hl⟩ := I.loc
    refine ⟨m, ns m hn, fun i x v e1 e2 e3 => ?_⟩
    obtain ⟨u, r, l⟩ := hl i x v e1 e2 e3
    refine ⟨u, r, ?_⟩
    rcases l with l | ⟨k, c, e, z⟩
    · exact .inl l
    · exact .inr ⟨k, c, e, cellK x c e _ z⟩
  · obtain ⟨v, z⟩ := I.cell x c e
    exact ⟨v, cellK x c e v z⟩
  · obtain ⟨m, ⟨o, _, _, ho, _⟩, _⟩ := I.loc
    exact free _ o (fun z => (hch _ z).2.1 rfl) ho I.free
  · obtain ⟨v, o, ho, hd⟩ := I.cell x c e
    exact free c o (fun z => (hch c z).2.2.1 x c e rfl) ho (I.freeC x c e)
  · obtain ⟨e, n, ne, nf, d⟩ := I.pin p hp
    have nch : p.1 ∉ ch := fun z => (hch p.1 z).2.2.2 p hp rfl
    exact ⟨keep p.1 p.2 ne nf nch e n, free p.1 p.2 nch e n, ne, nf, d⟩
/-- .. where the frame's own object is kept too -/
theorem Inv.un {t' : Nat} (I : Inv X pins σ H s) (u : Un X.fs [] H H' s.heap h') (hok : HOk X.prog X.w H' h') : Inv X pins σ H' { s with heap := h', toks := t' } := by
  obtain ⟨m, ⟨o, es, ep, ho, r⟩, _⟩ := id I.loc
  obtain ⟨sl, hL⟩ := u.any ho I.free (by simp)
  exact I.step (g' := s.gens) (d' := s.drawn) (ch := []) (fun _ z => nomatch z) (fun b o _ hb _ e n => u.keep b o e n hb (by simp)) (fun b o _ hb _ e n => u.slot b o e n hb (by simp)) (fun b o _ e n => u.free b o e n (by simp)) (fun b o _ e => u.there b o e (by simp)) u.tups u.frzs u.tbls (fun m' hm => by
    obtain ⟨o', es', ep', ho', r'⟩ := hm
    rw [ho] at ho'; cases ho'
    exact ⟨_, es', ep', hL, r'⟩) hok I.bare
/-- behind a call (or a comprehension's block): the slots of this frame may have changed too, the records at ch may have turned -/
theorem Inv.call {g' : Array GenState} {t' : Nat} {d' : Drawn} {ch : List Addr} (I : Inv X pins σ H s) (u : Un (frs X.stack) ch H H' s.heap h') (hok : HOk X.prog X.w H' h') (hg : AllBare g')
    (hch : ∀ b ∈ ch, (b ∈ X.ex ∨ X.s_0.heap.objs.size ≤ b) ∧ b ≠ X.env.locals ∧ (∀ x c, X.env.cells.lookup x = some c → c ≠ b) ∧ ∀ p ∈ X.pn ++ pins, p.1 ≠ b) :
    Inv X pins σ H' { s with heap := h', gens := g', drawn := d', toks := t' } := by
  obtain ⟨m, ⟨o, es, ep, ho, r⟩, _⟩ := id I.loc
  obtain ⟨sl, hL⟩ := u.any ho I.free fun z => (hch _ z).2.1 rfl
  exact I.step (ch := ch) hch (fun b o hL hb hc e n => u.keep b o e n (fun z => (List.mem_cons.mp (I.stkSub b z)).elim hL hb) hc) (fun b o _ _ hc e n => u.any e n hc) (fun b o hc e n => u.free b o e n hc) (fun b o hc e => u.there b o e hc) u.tups u.frzs u.tbls (fun m' hm => by
    obtain ⟨o', es', ep', ho', r'⟩ := hm
    rw [ho] at ho'; cases ho'
    exact ⟨_, es', ep', hL, r'⟩) hok hg
/-- an untracked record of ours (an iterator) has turned -/
theorem Inv.turned {t' : Nat} {it : Addr} (I : Inv X pins σ H s) (k : ∀ b o, b ≠ it → s.heap.get? b = some o → h'.get? b = some o) (hn : H it = none) (hL : it ≠ X.env.locals)
    (h1 : it ∈ X.ex ∨ X.s_0.heap.objs.size ≤ it) (h2 : ∀ x c, X.env.cells.lookup x = some c → c ≠ it) (h3 : ∀ p ∈ X.pn ++ pins, p.1 ≠ it) : Inv X pins σ H { s with heap := h', toks := t' } := by
  have nit : ∀ b u, H b = some u → b ≠ it := fun b u e z => by rw [z, hn] at e; cases e
  refine I.step (g' := s.gens) (d' := s.drawn) (ch := [it]) (fun b hb => ?_) (fun b o _ _ hc e _ => k b o (fun z => hc (by simp [z])) e) (fun b o _ _ hc e _ => ⟨o.slots, k b o (fun z => hc (by simp [z])) e⟩) (fun _ _ _ _ n => n)
    (fun b o hc e => ⟨o, k b o (fun z => hc (by simp [z])) e⟩) (fun _ _ e => e) (fun _ _ _ e => e) (fun b ps e => ⟨#[], by rw [e]; simp⟩) (fun m hm => ?_) (fun b u e => ?_) I.bare
  · have e : b = it := by simpa using hb
    subst e
    exact ⟨h1, hL, h2, h3⟩
  · obtain ⟨o, es, ep, ho, r⟩ := hm
    exact ⟨o, es, ep, k _ o (Ne.symm hL) ho, r⟩
  · refine (I.hok b u e).stay (fun c v hc q => k c v ?_ q) (fun _ q => q) fun _ _ q => q
    rcases hc with z | z
    · rw [z]; exact nit b u e
    · exact nit c _ z
theorem Inv.tok (I : Inv X pins σ H s) (t : Nat) : Inv X pins σ H { s with toks := t } := I.un (h' := s.heap) (t' := t) Un.refl I.hok
/-- all objects kept -/
theorem Inv.kept {t' : Nat} (I : Inv X pins σ H s) (k : ∀ b u, s.heap.get? b = some u → h'.get? b = some u) : Inv X pins σ H { s with heap := h', toks := t' } := I.un (Un.kept k) (I.hok.kept k)
/-- a new object laid and tracked -/
theorem Inv.laid {a : Addr} {o : HO} {t' : Nat} (I : Inv X pins σ H s) (k : ∀ b u, s.heap.get? b = some u → h'.get? b = some u) (hp : s.heap.objs.size ≤ a) (new : ObjOk X.prog X.w (upd H a o) h' a o) :
    Inv X pins σ (upd H a o) { s with heap := h', toks := t' } := I.un (Un.laid k hp (I.hok.fresh hp)) (I.hok.laid k hp new)
/-- an object written -/
theorem Inv.write {x e : Addr} {o : HO} {t' : Nat} (I : Inv X pins σ H s) (mu : Mut (H x)) (he : e = x ∨ H e = some (.own x)) (k : ∀ b u, b ≠ e → s.heap.get? b = some u → h'.get? b = some u) (heo : ∃ u, h'.get? e = some u)
    (new : ObjOk X.prog X.w (upd H x o) h' x o) : Inv X pins σ (upd H x o) { s with heap := h', toks := t' } := I.un (Un.write mu he k heo) (I.hok.write mu he k heo new)
/-- forgetting slots, pins -/
theorem Inv.weak {σ' : List (Option V)} (I : Inv X pins σ H s) (hl : σ'.length = σ.length) (w : ∀ (i : Nat) v, σ'[i]? = some (some v) → σ[i]? = some (some v)) : Inv X pins σ' H s :=
  ⟨I.ok, I.os, I.bare, I.base, let ⟨m, hn, hl'⟩ := I.loc; ⟨m, hn, fun i x v e1 e2 e3 => hl' i x v e1 (w i v e2) e3⟩, I.cell, I.free, I.freeC, I.pin, I.hok, hl.trans I.len⟩
theorem Inv.pins_of {pins' : List (Addr × Obj)} (I : Inv X pins σ H s) (h : ∀ p ∈ pins', s.heap.get? p.1 = some p.2 ∧ H p.1 = none ∧ p.1 ≠ X.env.locals ∧ p.1 ∉ X.fs ∧ ∀ v, p.2.data ≠ .cell v) : Inv X pins' σ H s :=
  ⟨I.ok, I.os, I.bare, I.base, I.loc, I.cell, I.free, I.freeC, fun p hp => (List.mem_append.mp hp).elim (fun z => I.pin p (List.mem_append_left _ z)) (h p), I.hok, I.len⟩

theorem nodup_ix {N : List Str} (hN : N.Nodup) {i j : Nat} {x : Str} (a : N[i]? = some x) (b : N[j]? = some x) : i = j := by
  obtain ⟨h1, e1⟩ := List.getElem?_eq_some_iff.mp a
  obtain ⟨h2, e2⟩ := List.getElem?_eq_some_iff.mp b
  exact (List.getElem_inj hN).mp (e1.trans e2.symm)

/-- a name is stored; what changed -/
theorem store_ok2 {M : Model} {A : Around} {E : Value → Shared → Prop} {i : Nat} {x : Str} {v : V} {u : Value} {Q : Unit → Shared → Prop} (I : Inv X pins σ H s) (hN : X.N.Nodup) (hi : X.N[i]? = some x) (hx : Loc X.env.scope x) (r : RelV v u)
    (h : ∀ s', Inv X pins (σ.set i (some v)) H s' → (∃ a, Heap.SameBut a s.heap s'.heap ∧ (a = X.env.locals ∨ X.env.cells.lookup x = some a)) → Q () s') (hf : X.fn x = true ∨ X.env.scope.names.lookup x = some .local := by first | exact .inl rfl | exact .inr rfl | assumption) : wpAny M A (storeName X.env x u) Q E s := by
  obtain ⟨m, hn, hl⟩ := id I.loc
  have hcls : (X.env.scope.kind == .class || (X.env.scope.kind == .module && X.env.locals != X.env.globals)) = false := by rw [I.ok.kind]; rfl
  have hiσ : i < σ.length := by rw [I.len]; exact (List.getElem?_eq_some_iff.mp hi).1
  have cne := I.cne
  have tracked : ∀ {a : Addr} {h' : Heap}, (∃ o, s.heap.get? a = some o ∧ H a = none) → Heap.SameBut a s.heap h' → HOk X.prog X.w H h' := fun {a h'} ha hs b ob e => by
    obtain ⟨_, _, hfree⟩ := ha
    refine (I.hok b ob e).stay (fun c w' hc q => (hs.2 c ?_).trans q) (fun _ q => q) fun _ _ q => q
    rintro rfl
    rcases hc with rfl | hc
    · rw [hfree] at e; cases e
    · rw [hfree] at hc; cases hc
  rcases hx with hk | hk
  · refine wpAny_storeName_local hk hn (fun h' hn' hs => ?_) hcls
    obtain ⟨oL, _, _, hoL, _⟩ := id hn
    refine h _ ⟨I.ok, I.os, I.bare, ⟨fun b o e n hb hx => ?_, fun b o e n hb hx => ?_, I.base.free, fun b o e hx => ?_, I.base.tups, I.base.frzs, I.base.tbls⟩, ⟨_, hn', fun j y v' e1 e2 e3 => ?_⟩, fun y c e => ?_, I.free, I.freeC, fun p hp => ?_, tracked ⟨oL, hoL, I.free⟩ hs, by simpa using I.len⟩ ⟨_, hs, .inl rfl⟩
    · exact (hs.2 b (Nat.ne_of_lt (Nat.lt_of_lt_of_le (Heap.lt_size e) I.ok.above))).trans (I.base.keep b o e n hb hx)
    · obtain ⟨sl, e1⟩ := I.base.slot b o e n hb hx
      exact ⟨sl, (hs.2 b (Nat.ne_of_lt (Nat.lt_of_lt_of_le (Heap.lt_size e) I.ok.above))).trans e1⟩
    · obtain ⟨o', e1⟩ := I.base.there b o e hx
      exact ⟨o', (hs.2 b (Nat.ne_of_lt (Nat.lt_of_lt_of_le (Heap.lt_size e) I.ok.above))).trans e1⟩
    · by_cases hj : j = i
      · subst hj
        rw [hi] at e1; cases e1
        rw [List.getElem?_set_self hiσ] at e2
        cases e2
        exact ⟨u, r, .inl ⟨hk, by simp⟩⟩
      · rw [List.getElem?_set_ne (Ne.symm hj)] at e2
        obtain ⟨u', r', q⟩ := hl j y v' e1 e2 e3
        refine ⟨u', r', ?_⟩
        rcases q with ⟨k, e⟩ | ⟨k, c, e, z⟩
        · refine .inl ⟨k, ?_⟩
          have : y ≠ x := fun e => hj (nodup_ix hN e1 (e ▸ hi))
          simp [this, e]
        · exact .inr ⟨k, c, e, z.sameBut hs (cne y c e)⟩
    · obtain ⟨w', z⟩ := I.cell y c e
      exact ⟨w', z.sameBut hs (cne y c e)⟩
    · obtain ⟨e, n, ne, nf, d⟩ := I.pin p hp
      exact ⟨(hs.2 p.1 ne).trans e, n, ne, nf, d⟩
  · have hfn : X.fn x = true := by
      rcases hf with z | z
      · exact z
      · rw [z] at hk; cases hk
    obtain ⟨c, hc⟩ := I.ok.has x (.inl hk)
    obtain ⟨w', z⟩ := I.cell x c hc
    refine wpAny_storeName_cell I.ok.kind hk hc z (fun h' hc' hs => ?_)
    obtain ⟨oc, hoc, hocd⟩ := id z
    refine h { s with heap := h' } ⟨I.ok, I.os, I.bare, ⟨fun b o e n hb hx => ?_, fun b o e n hb hx => ?_, I.base.free, fun b o e hx => ?_, I.base.tups, I.base.frzs, I.base.tbls⟩, ⟨m, hn.sameBut hs (Ne.symm (cne x c hc)), fun j y v' e1 e2 e3 => ?_⟩, fun y c' e => ?_, I.free, I.freeC, fun p hp => ?_, tracked ⟨oc, hoc, I.freeC x c hc⟩ hs, by simpa using I.len⟩ ⟨c, hs, .inr hc⟩
    · exact (hs.2 b (Nat.ne_of_lt (Nat.lt_of_lt_of_le (Heap.lt_size e) (I.ok.cab x c hfn hc)))).trans (I.base.keep b o e n hb hx)
    · obtain ⟨sl, e1⟩ := I.base.slot b o e n hb hx
      exact ⟨sl, (hs.2 b (Nat.ne_of_lt (Nat.lt_of_lt_of_le (Heap.lt_size e) (I.ok.cab x c hfn hc)))).trans e1⟩
    · obtain ⟨o', e1⟩ := I.base.there b o e hx
      exact ⟨o', (hs.2 b (Nat.ne_of_lt (Nat.lt_of_lt_of_le (Heap.lt_size e) (I.ok.cab x c hfn hc)))).trans e1⟩
    · by_cases hj : j = i
      · subst hj
        rw [hi] at e1; cases e1
        rw [List.getElem?_set_self hiσ] at e2
        cases e2
        exact ⟨u, r, .inr ⟨.inl hk, c, hc, hc'⟩⟩
      · rw [List.getElem?_set_ne (Ne.symm hj)] at e2
        obtain ⟨u', r', q⟩ := hl j y v' e1 e2 e3
        refine ⟨u', r', ?_⟩
        rcases q with q | ⟨k, c', e, z'⟩
        · exact .inl q
        · refine .inr ⟨k, c', e, z'.sameBut hs ?_⟩
          rintro rfl
          exact hj (nodup_ix hN e1 (I.ok.inj _ _ _ e hc ▸ hi))
    · by_cases hcc : c' = c
      · subst hcc; exact ⟨_, hc'⟩
      · obtain ⟨w2, z2⟩ := I.cell y c' e
        exact ⟨w2, z2.sameBut hs hcc⟩
    · obtain ⟨e, n, ne, nf, d⟩ := I.pin p hp
      refine ⟨(hs.2 p.1 ?_).trans e, n, ne, nf, d⟩
      intro q
      rw [q, hoc] at e
      have q' : oc = p.2 := Option.some.inj e
      exact d w' (by rw [← q']; exact hocd)
theorem store_ok {M : Model} {A : Around} {E : Value → Shared → Prop} {i : Nat} {x : Str} {v : V} {u : Value} {Q : Unit → Shared → Prop} (I : Inv X pins σ H s) (hN : X.N.Nodup) (hi : X.N[i]? = some x) (hx : Loc X.env.scope x) (r : RelV v u)
    (h : ∀ s', Inv X pins (σ.set i (some v)) H s' → Q () s') (hf : X.fn x = true ∨ X.env.scope.names.lookup x = some .local := by first | exact .inl rfl | exact .inr rfl | assumption) : wpAny M A (storeName X.env x u) Q E s :=
  store_ok2 I hN hi hx r (fun s' I' _ => h s' I') hf
/-- behind a call or a block, the state as it is -/
theorem Inv.call' {s' : Shared} {ch : List Addr} (I : Inv X pins σ H s) (ho : s'.os = s.os) (u : Un (frs X.stack) ch H H' s.heap s'.heap) (hok : HOk X.prog X.w H' s'.heap) (hg : AllBare s'.gens)
    (hch : ∀ b ∈ ch, (b ∈ X.ex ∨ X.s_0.heap.objs.size ≤ b) ∧ b ≠ X.env.locals ∧ (∀ x c, X.env.cells.lookup x = some c → c ≠ b) ∧ ∀ p ∈ X.pn ++ pins, p.1 ≠ b) : Inv X pins σ H' s' := by
  obtain ⟨h', g', d', t', o'⟩ := s'
  have e : o' = s.os := ho
  subst e
  exact I.call (g' := g') (t' := t') (d' := d') u hok hg hch
end

/-! ### the judgements -/
/-- an exception: its class, its own dict's address (where it has one), the abstract heap behind it -/
abbrev XK := Value → Option Addr → Hp → Prop
abbrev St := List (Option V)
abbrev VK := V → Hp → Prop
/-- an expression's reading; a test's; an argument list's -/
abbrev TE := St → Hp → VK → Prop
abbrev TT := St → Hp → (Bool → Hp → Prop) → Prop
abbrev TA := St → Hp → (List V → Hp → Prop) → Prop
/-- what is wanted behind a statement -/
structure Ends where
  nx : St → Hp → Prop
  rt : VK
  bk : St → Hp → Prop := fun _ _ => False
  ct : St → Hp → Prop := fun _ _ => False
abbrev TS := Ends → St → Hp → Prop

def EP (X : Cx) (pins : List (Addr × Obj)) (σ : St) (Q : VK) (u : Value) (s' : Shared) : Prop := ∃ v H', Inv X pins σ H' s' ∧ RelV v u ∧ Q v H'
def TP (X : Cx) (pins : List (Addr × Obj)) (σ : St) (Q : Bool → Hp → Prop) (b : Bool) (s' : Shared) : Prop := ∃ H', Inv X pins σ H' s' ∧ Q b H'
def AP (X : Cx) (pins : List (Addr × Obj)) (σ : St) (Q : List V → Hp → Prop) (us : List Value) (s' : Shared) : Prop := ∃ vs H', Inv X pins σ H' s' ∧ Vals vs us ∧ Q vs H'
def SP (X : Cx) (pins : List (Addr × Obj)) (D : Ends) (f : Flow) (s' : Shared) : Prop :=
  match f with
  | .next => ∃ σ' H', Inv X pins σ' H' s' ∧ D.nx σ' H'
  | .brk => ∃ σ' H', Inv X pins σ' H' s' ∧ D.bk σ' H'
  | .cont => ∃ σ' H', Inv X pins σ' H' s' ∧ D.ct σ' H'
  | .ret u => ∃ v σ' H', Inv X pins σ' H' s' ∧ RelV v u ∧ D.rt v H'

def PE (X : Cx) (e : Expr) (t : TE) : Prop :=
  ∀ (pins : List (Addr × Obj)) (s : Shared) (σ : St) (H : Hp) (Q : VK), Inv X pins σ H s → t σ H Q → wpAny (model X.prog X.w) X.A (eval e X.env) (EP X pins σ Q) X.xe s
def PT (X : Cx) (e : Expr) (t : TT) : Prop :=
  ∀ (pins : List (Addr × Obj)) (s : Shared) (σ : St) (H : Hp) (Q : Bool → Hp → Prop), Inv X pins σ H s → t σ H Q → wpAny (model X.prog X.w) X.A (isTrue e X.env (eval e X.env)) (TP X pins σ Q) X.xe s
/-- a test whatever its 'whole' is (and, or) -/
def PW (X : Cx) (e : Expr) (t : TT) : Prop :=
  ∀ (whole : Sem Value) (pins : List (Addr × Obj)) (s : Shared) (σ : St) (H : Hp) (Q : Bool → Hp → Prop), Inv X pins σ H s → t σ H Q → wpAny (model X.prog X.w) X.A (isTrue e X.env whole) (TP X pins σ Q) X.xe s
theorem PW.pt {X : Cx} {e : Expr} {t : TT} (h : PW X e t) : PT X e t := h _
/-- an argument list (no star), from the left -/
def PA (X : Cx) (es : List Expr) (t : TA) : Prop :=
  ∀ (pos : Pos) (pins : List (Addr × Obj)) (s : Shared) (σ : St) (H : Hp) (Q : List V → Hp → Prop), Inv X pins σ H s → t σ H Q → wpAny (model X.prog X.w) X.A (spliced (backTo pos (starEach es X.env))) (AP X pins σ Q) X.xe s
def PS (X : Cx) (st : Stmt) (t : TS) : Prop :=
  ∀ (pins : List (Addr × Obj)) (s : Shared) (σ : St) (H : Hp) (D : Ends), Inv X pins σ H s → t D σ H → wpAny (model X.prog X.w) X.A (exec st X.env) (SP X pins D) X.xe s
def PSs (X : Cx) (st : List Stmt) (t : TS) : Prop :=
  ∀ (pins : List (Addr × Obj)) (s : Shared) (σ : St) (H : Hp) (D : Ends), Inv X pins σ H s → t D σ H → wpAny (model X.prog X.w) X.A (execs st X.env) (SP X pins D) X.xe s
/-- weaken the end -/
theorem thn {α : Type} {t : Sem α} {Q Q' : α → Shared → Prop} {M : Model} {A : Around} {E : Value → Shared → Prop} {s : Shared} (h : wpAny M A t Q E s) (hQ : ∀ a s, Q a s → Q' a s) : wpAny M A t Q' E s := wpAny_mono h hQ fun _ _ x => x
end L2

namespace L2
open PySem PySem.Spec PyProof.Rows
section
variable {X : Cx}

/-- two expressions in a row -/
theorem bin {a b : Expr} {ta tb : TE} (ha : PE X a ta) (hb : PE X b tb) {pins : List (Addr × Obj)} {s : Shared} {σ : St} {H : Hp} {R : V → V → Hp → Prop} (I : Inv X pins σ H s) (h : ta σ H fun x H1 => tb σ H1 fun y H2 => R x y H2)
    {α : Type} {Q : α → Shared → Prop} {f : Value → Value → Sem α}
    (hf : ∀ v u s2 x y H2, Inv X pins σ H2 s2 → RelV x v → RelV y u → R x y H2 → wpAny (model X.prog X.w) X.A (f v u) Q X.xe s2) :
    wpAny (model X.prog X.w) X.A (eval a X.env) (fun v s₁ => wpAny (model X.prog X.w) X.A (eval b X.env) (fun u s₂ => wpAny (model X.prog X.w) X.A (f v u) Q X.xe s₂) X.xe s₁) X.xe s := by
  refine thn (ha pins s σ H _ I h) fun v s1 ⟨x, H1, I1, r1, q1⟩ => ?_
  refine thn (hb pins s1 σ H1 _ I1 q1) fun u s2 ⟨y, H2, I2, r2, q2⟩ => ?_
  exact hf v u s2 x y H2 I2 r1 r2 q2

/-! ### names and constants -/
def tVar (i : Nat) : TE := fun σ H Q => ∃ v, σ[i]? = some (some v) ∧ Q v H
def tC (v : V) : TE := fun _ H Q => Q v H
theorem pe_var {i : Nat} {x : Str} {pos : Pos} (hN : X.N[i]? = some x) (hv : Vis X.env.scope x) (hd : (x == ("__debug__" : Str)) = false := by decide) (hcd : (x == ("__classdict__" : Str)) = false := by decide) : PE X (.Name x pos) (tVar i) := by
  intro pins s σ H Q I h
  obtain ⟨v, e, h⟩ := h
  obtain ⟨m, hn, hl⟩ := I.loc
  obtain ⟨u, r, l⟩ := hl i x v hN e hv
  have fin : EP X pins σ Q u s := ⟨v, H, I, r, h⟩
  rcases l with ⟨hk, hm⟩ | ⟨hk, c, hc, hcell⟩
  · exact wpAny_Name (wpAny_loadName_local I.ok.kind hk hn hm fin) hd
  · rcases hk with hk | hk
    · exact wpAny_Name (wpAny_loadName_cell I.ok.kind hk hc hcell fin) hd
    · exact wpAny_Name (wpAny_loadName_free I.ok.kind hk hc hcell fin hcd) hd
theorem pe_int {i j pos} : PE X (.Constant (.int i) j pos) (tC (.int i)) := fun _ _ _ H _ I h => wpAny_Constant_int ⟨.int i, H, I.tok _, ⟨_, rfl⟩, h⟩
theorem pe_bl {b j pos} : PE X (.Constant (.bool b) j pos) (tC (.bl b)) := fun _ _ _ H _ I h => Constant_bool ⟨.bl b, H, I, rfl, h⟩
theorem pe_non {j pos} : PE X (.Constant .none j pos) (tC .non) := fun _ _ _ H _ I h => Constant_none ⟨.non, H, I, rfl, h⟩

/-- a global name of the def -/
def Gl (X : Cx) (x : Str) : Prop := X.env.kindOf x = some .globalImplicit
theorem ld_glob {E : Value → Shared → Prop} {pins : List (Addr × Obj)} {s : Shared} {σ : St} {H : Hp} {x : Str} {u : Value} {pos : Pos} {Q : Value → Shared → Prop} (I : Inv X pins σ H s) (hg : Gl X x) (hm : X.mg x = some u) (h : Q u s)
    (hd : (x == ("__debug__" : Str)) = false := by decide) : wpAny (model X.prog X.w) X.A (eval (.Name x pos) X.env) Q E s :=
  Calls.Name_function_global I.ok.kind hg (Calls.loadGlobal_global (by rw [I.ok.glob]; exact I.mod.glob.keeps I.bk) hm h) hd
theorem ld_blt {E : Value → Shared → Prop} {pins : List (Addr × Obj)} {s : Shared} {σ : St} {H : Hp} {x : Str} {u : Value} {pos : Pos} {Q : Value → Shared → Prop} (I : Inv X pins σ H s) (hg : Gl X x) (hm : X.mg x = none) (hv : bootBuiltins x = some u) (h : Q u s)
    (hn : x ≠ "__name__" := by decide) (hd : (x == ("__debug__" : Str)) = false := by decide) : wpAny (model X.prog X.w) X.A (eval (.Name x pos) X.env) Q E s := by
  obtain ⟨mb, h1, h2⟩ := I.mod.blt
  exact Calls.Name_function_global I.ok.kind hg (Calls.loadGlobal_builtin (by rw [I.ok.glob]; exact I.mod.glob.keeps I.bk) hm (by rw [I.ok.blt]; exact h1.keeps I.bk) ((h2 x hn).trans hv) h) hd
/-- a module's constant, a class, a function, as a value -/
theorem pe_glob {x : Str} {v : V} {u : Value} {pos : Pos} (hg : Gl X x) (hm : X.mg x = some u) (r : RelV v u) (hd : (x == ("__debug__" : Str)) = false := by decide) : PE X (.Name x pos) (tC v) :=
  fun _ _ _ H _ I h => ld_glob I hg hm ⟨v, H, I, r, h⟩ hd

/-! ### arithmetic -/
variable {a b : Expr} {ta tb : TE} {pos : Pos}

/-! ### comparisons -/
def PC (X : Cx) (op : CmpOp) (a b : Expr) (t : TE) : Prop :=
  ∀ (pins : List (Addr × Obj)) (s : Shared) (σ : St) (H : Hp) (Q : VK), Inv X pins σ H s → t σ H Q →
    wpAny (model X.prog X.w) X.A (eval a X.env) (fun v s₁ => wpAny (model X.prog X.w) X.A (eval b X.env) (fun u s₂ => wpAny (model X.prog X.w) X.A (compareOp op v u) (EP X pins σ Q) X.xe s₂) X.xe s₁) X.xe s
theorem nobehind (b : Expr) {op : CmpOp} (h : op ≠ .In) (h2 : op ≠ .NotIn) : behindInMarks op b = false := by
  have e1 : (op == CmpOp.In) = false := by cases op <;> first | rfl | exact absurd rfl h
  have e2 : (op == CmpOp.NotIn) = false := by cases op <;> first | rfl | exact absurd rfl h2
  cases b <;> simp [behindInMarks, e1, e2]
/-- is None -/
def tIsN (ta : TE) : TE := fun σ H Q => ta σ H fun x H1 => Q (.bl (decide (x = .non))) H1
def tNotN (ta : TE) : TE := fun σ H Q => ta σ H fun x H1 => Q (.bl (!decide (x = .non))) H1
theorem RelV.none_iff {x : V} {v : Value} (r : RelV x v) : (v == Value.none) = decide (x = .non) := by
  cases x with
  | non => cases r; rfl
  | bl _ => cases r; rfl
  | int _ => obtain ⟨t, rfl⟩ := r; rfl
  | str _ => obtain ⟨t, rfl⟩ := r; rfl
  | byt _ => obtain ⟨t, rfl⟩ := r; rfl
  | flt _ => obtain ⟨t, rfl⟩ := r; rfl
  | ref _ => cases r; rfl
  | ty _ => cases r; rfl
theorem pc_isN {j pos'} (ha : PE X a ta) : PC X .Is a (.Constant .none j pos') (tIsN ta) := by
  intro pins s σ H Q I h
  refine thn (ha pins s σ H _ I h) fun v s1 ⟨x, H1, I1, r1, q1⟩ => ?_
  exact Constant_none (is_none_gen ⟨.bl _, H1, I1, by rw [r1.none_iff]; rfl, q1⟩)
theorem pc_notN {j pos'} (ha : PE X a ta) : PC X .IsNot a (.Constant .none j pos') (tNotN ta) := by
  intro pins s σ H Q I h
  refine thn (ha pins s σ H _ I h) fun v s1 ⟨x, H1, I1, r1, q1⟩ => ?_
  exact Constant_none (isnot_none_gen ⟨.bl _, H1, I1, by rw [r1.none_iff]; rfl, q1⟩)
/-- a comparison as a value, as a test -/
def tB (t : TE) : TT := fun σ H Q => t σ H fun x H1 => ∃ c, x = .bl c ∧ Q c H1
theorem pt_cmp {op : CmpOp} {t : TE} (h : PC X op a b t) (h1 : behindInMarks op b = false := by first | exact nobehind _ (by decide) (by decide) | rfl) : PT X (.Compare a [op] [b] pos) (tB t) := by
  intro pins s σ H Q I hw
  refine wpAny_isTrue_Compare1 (thn (h pins s σ H _ I hw) fun v s1 h1 => thn h1 fun u s2 h2 => thn h2 fun c s3 ⟨x, H1, I1, r1, q1⟩ => ?_) h1
  obtain ⟨d, rfl, q⟩ := q1
  cases r1
  exact wpAny_truthy_bool ⟨H1, I1, q⟩
/-- an expression whose value is a bool, as a test -/
theorem pt_val {e : Expr} {t : TE} (h : PE X e t) (he : ∀ whole, isTrue e X.env whole = (do let v ← whole; standAt e.pos; holding [v] (truthy v)) := by intro _; rfl) : PT X e (tB t) := by
  intro pins s σ H Q I hw
  refine isTrue_plain (thn (h pins s σ H _ I hw) fun v s1 ⟨x, H1, I1, r1, q1⟩ => ?_) (he _)
  obtain ⟨d, rfl, q⟩ := q1
  cases r1
  exact wpAny_truthy_bool ⟨H1, I1, q⟩

/-! ### and, or, not -/
variable {tA tB' : TT} {rest : List Expr}
def tAnd (t u : TT) : TT := fun σ H Q => t σ H fun c H1 => if c = true then u σ H1 Q else Q false H1
def tOr (t u : TT) : TT := fun σ H Q => t σ H fun c H1 => if c = true then Q true H1 else u σ H1 Q
def tNot (t : TT) : TT := fun σ H Q => t σ H fun c H1 => Q (!c) H1
theorem pw_and1 (ha : PT X a tA) : PW X (.BoolOp .And [a] pos) tA := by
  intro wh pins s σ H Q I h
  refine isTrue_and (thn (ha pins s σ H Q I h) fun c s1 e => ?_)
  cases c with
  | true => exact isTrue_and_nil e
  | false => exact e
theorem pw_or1 (ha : PT X a tA) : PW X (.BoolOp .Or [a] pos) tA := by
  intro wh pins s σ H Q I h
  refine isTrue_or (thn (ha pins s σ H Q I h) fun c s1 e => ?_)
  cases c with
  | false => exact isTrue_or_nil e
  | true => exact e
theorem pw_and (ha : PT X a tA) (hb : PW X (.BoolOp .And (b :: rest) pos) tB') : PW X (.BoolOp .And (a :: b :: rest) pos) (tAnd tA tB') := by
  intro wh pins s σ H Q I h
  refine isTrue_and (thn (ha pins s σ H _ I h) fun c s1 ⟨H1, I1, q1⟩ => ?_)
  cases c with
  | true => exact hb wh pins s1 σ H1 Q I1 q1
  | false => exact ⟨H1, I1, q1⟩
theorem pw_or (ha : PT X a tA) (hb : PW X (.BoolOp .Or (b :: rest) pos) tB') : PW X (.BoolOp .Or (a :: b :: rest) pos) (tOr tA tB') := by
  intro wh pins s σ H Q I h
  refine isTrue_or (thn (ha pins s σ H _ I h) fun c s1 ⟨H1, I1, q1⟩ => ?_)
  cases c with
  | true => exact ⟨H1, I1, q1⟩
  | false => exact hb wh pins s1 σ H1 Q I1 q1
theorem pt_not (ha : PT X a tA) : PT X (.UnaryOp .Not a pos) (tNot tA) := by
  intro pins s σ H Q I h
  exact isTrue_not (ha pins s σ H (fun c H1 => Q (!c) H1) I h)
/-- .. as values (bools) -/
def tAndV (ta tb : TE) : TE := fun σ H Q => ta σ H fun x H1 => ∃ c, x = .bl c ∧ if c = true then tb σ H1 Q else Q (.bl false) H1
theorem pe_one {op} {t : TE} (h : PE X a t) : PE X (.BoolOp op [a] pos) t := fun pins s σ H Q I hw => BoolOp_one (h pins s σ H Q I hw)
theorem pe_and (ha : PE X a ta) (hb : PE X (.BoolOp .And (b :: rest) pos) tb) : PE X (.BoolOp .And (a :: b :: rest) pos) (tAndV ta tb) := by
  intro pins s σ H Q I h
  refine BoolOp_and (thn (ha pins s σ H _ I h) fun v s1 ⟨x, H1, I1, r1, q1⟩ => ?_)
  obtain ⟨c, rfl, q1⟩ := q1
  cases r1
  refine wpAny_truthy_bool ?_
  cases c with
  | true => exact hb pins s1 σ H1 Q I1 q1
  | false => exact ⟨.bl false, H1, I1, rfl, q1⟩
/-- a if t else b -/
def tIf (t : TT) (ta tb : TE) : TE := fun σ H Q => t σ H fun c H1 => if c = true then ta σ H1 Q else tb σ H1 Q
theorem pe_ifExp {c : Expr} (hc : PT X c tA) (ha : PE X a ta) (hb : PE X b tb) : PE X (.IfExp c a b pos) (tIf tA ta tb) := by
  intro pins s σ H Q I h
  refine wpAny_IfExp (thn (hc pins s σ H _ I h) fun d s1 ⟨H1, I1, q1⟩ => ?_)
  cases d with
  | true => exact ha pins s1 σ H1 Q I1 q1
  | false => exact hb pins s1 σ H1 Q I1 q1
end
end L2

namespace L2
open PySem PySem.Spec PyProof.Rows

/-! ### a list, a tuple that is read: tracked, frozen, or an object of the module -/
def SqL (K : PySem.W.Frag) (H : Hp) (a : Addr) (xs : List V) : Prop :=
  Rd H a (.lst xs) ∨
    ∃ (o : Obj) (its : Array Value) (n : Nat), K.lookup a = some o ∧ o.cls = .type "list" ∧ o.dict = none ∧ o.data = .seq its n ∧ its.size ≤ sizeLine ∧ Vals xs its.toList
def SqT (K : PySem.W.Frag) (H : Hp) (a : Addr) (xs : List V) : Prop :=
  Rd H a (.tup xs) ∨
    ∃ (o : Obj) (its : Array Value) (n : Nat), K.lookup a = some o ∧ o.cls = .type "tuple" ∧ o.data = .seq its n ∧ its.size ≤ sizeLine ∧ Vals xs its.toList
def absV : Value → Option V
  | .none => some .non
  | .bool b => some (.bl b)
  | .int i _ => some (.int i)
  | .str x _ => some (.str x)
  | .bytes b _ => some (.byt b)
  | .float b _ => some (.flt b)
  | .ref a => some (.ref a)
  | .type n => some (.ty n)
  | _ => none
theorem RelV.abs {x : V} {u : Value} (r : RelV x u) : absV u = some x := by
  cases x with
  | non => cases r; rfl
  | bl _ => cases r; rfl
  | int _ => obtain ⟨t, rfl⟩ := r; rfl
  | str _ => obtain ⟨t, rfl⟩ := r; rfl
  | byt _ => obtain ⟨t, rfl⟩ := r; rfl
  | flt _ => obtain ⟨t, rfl⟩ := r; rfl
  | ref _ => cases r; rfl
  | ty _ => cases r; rfl
theorem RelV.inj {x y : V} {u : Value} (r : RelV x u) (q : RelV y u) : x = y := Option.some.inj (r.abs.symm.trans q.abs)
theorem Vals.inj : ∀ {xs ys : List V} {us : List Value}, Vals xs us → Vals ys us → xs = ys
  | _, _, _, .nil, .nil => rfl
  | _, _, _, .cons r t, .cons r' t' => by rw [r.inj r', Vals.inj t t']
section
variable {X : Cx} {pins : List (Addr × Obj)} {σ : St} {H : Hp} {s : Shared} {a : Addr} {xs ys : List V}
theorem SqL.of {K : PySem.W.Frag} (h : H a = some (.lst xs)) : SqL K H a xs := .inl (.inl h)
theorem SqT.of {K : PySem.W.Frag} (h : H a = some (.tup xs)) : SqT K H a xs := .inl (.inl h)
theorem Inv.list (I : Inv X pins σ H s) (h : SqL X.K H a xs) : ∃ its : List Value, Vals xs its ∧ PlainL s.heap a its.toArray ∧ xs.length ≤ sizeLine := by
  rcases h with h | ⟨o, its, n, hk, hc, hd, hs, hz, r⟩
  · obtain ⟨z, its, n, r, e⟩ := h.ok I.hok
    exact ⟨its, r, ⟨_, n, e, rfl, rfl, rfl⟩, z⟩
  · refine ⟨its.toList, r, ⟨o, n, I.kIn a o hk, hc, hd, by simpa using hs⟩, ?_⟩
    have e := r.length
    simp only [Array.length_toList] at e
    omega
theorem Inv.tuple (I : Inv X pins σ H s) (h : SqT X.K H a xs) : ∃ its : List Value, Vals xs its ∧ IsTup s.heap a its.toArray ∧ xs.length ≤ sizeLine := by
  rcases h with h | ⟨o, its, n, hk, hc, hs, hz, r⟩
  · obtain ⟨z, its, r, p⟩ := h.ok I.hok
    exact ⟨its, r, p, z⟩
  · refine ⟨its.toList, r, ⟨o, I.kIn a o hk, hc, n, by simpa using hs⟩, ?_⟩
    have e := r.length
    simp only [Array.length_toList] at e
    omega
theorem Inv.list_inj (I : Inv X pins σ H s) (h : SqL X.K H a xs) (h' : SqL X.K H a ys) : xs = ys := by
  obtain ⟨its, r, ⟨o, n, e, _, _, d⟩, _⟩ := I.list h
  obtain ⟨its', r', ⟨o', n', e', _, _, d'⟩, _⟩ := I.list h'
  rw [e] at e'; cases e'
  rw [d] at d'
  injection d' with d1 _
  have : its = its' := by simpa using congrArg Array.toList d1
  subst this
  exact r.inj r'
end

/-! ### another wish about exceptions -/
abbrev Cx.wish (X : Cx) (E : Value → Shared → Prop) : Cx := { X with xe := E }
/-- no exception leaves -/
abbrev Cx.nox (X : Cx) : Cx := X.wish fun _ _ => False
theorem Cx.Ok.wish {X : Cx} (ok : X.Ok) (E : Value → Shared → Prop) : (X.wish E).Ok :=
  ⟨ok.mod, ok.kind, ok.glob, ok.blt, ok.above, ok.inj, ok.has, ok.cab, ok.hd, ok.frames, ok.stk, ok.exf, ok.bs, ok.bsz, ok.noex, ok.exfs, ok.funs, ok.frf⟩
theorem Cx.Ok.unwish {X : Cx} {E : Value → Shared → Prop} (ok : (X.wish E).Ok) : X.Ok :=
  ⟨ok.mod, ok.kind, ok.glob, ok.blt, ok.above, ok.inj, ok.has, ok.cab, ok.hd, ok.frames, ok.stk, ok.exf, ok.bs, ok.bsz, ok.noex, ok.exfs, ok.funs, ok.frf⟩
section
variable {X : Cx} {pins : List (Addr × Obj)} {σ : St} {H : Hp} {s : Shared} {E : Value → Shared → Prop}
theorem Inv.wish (I : Inv X pins σ H s) (E : Value → Shared → Prop) : Inv (X.wish E) pins σ H s := ⟨I.ok.wish E, I.os, I.bare, I.base, I.loc, I.cell, I.free, I.freeC, I.pin, I.hok, I.len⟩
theorem Inv.unwish (I : Inv (X.wish E) pins σ H s) : Inv X pins σ H s := ⟨I.ok.unwish, I.os, I.bare, I.base, I.loc, I.cell, I.free, I.freeC, I.pin, I.hok, I.len⟩
theorem SP.unwish {D : Ends} {f : Flow} {s' : Shared} (h : SP (X.wish E) pins D f s') : SP X pins D f s' := by
  cases f with
  | next => obtain ⟨σ', H', I, q⟩ := h; exact ⟨σ', H', I.unwish, q⟩
  | brk => obtain ⟨σ', H', I, q⟩ := h; exact ⟨σ', H', I.unwish, q⟩
  | cont => obtain ⟨σ', H', I, q⟩ := h; exact ⟨σ', H', I.unwish, q⟩
  | ret u => obtain ⟨v, σ', H', I, r, q⟩ := h; exact ⟨v, σ', H', I.unwish, r, q⟩
theorem PSs.nox {st : List Stmt} {t : TS} (h : PSs X.nox st t) : PSs X st t := fun pins s σ H D I hw =>
  wpAny_mono (h pins s σ H D (I.wish _) hw) (fun _ _ q => q.unwish) fun _ _ z => False.elim z
end

/-! ### blocks and small statements -/
section
variable {X : Cx} {st : Stmt} {rest : List Stmt} {t u : TS} {e : Expr} {te : TE} {pos : Pos}
def tNext : TS := fun D σ H => D.nx σ H
def tSeq (t u : TS) : TS := fun D σ H => t { D with nx := u D } σ H
theorem pss_nil : PSs X [] tNext := fun _ _ σ H _ I h => wpAny_execs_nil ⟨σ, H, I, h⟩
theorem pss_cons (h1 : PS X st t) (h2 : PSs X rest u) : PSs X (st :: rest) (tSeq t u) := by
  intro pins s σ H D I h
  refine wpAny_execs_cons (thn (h1 pins s σ H { D with nx := u D } I h) fun f s1 q => ?_)
  cases f with
  | next =>
    obtain ⟨σ', H', I', q⟩ := q
    exact h2 pins s1 σ' H' D I' q
  | ret v => exact q
  | brk => exact q
  | cont => exact q
theorem pss_one (h1 : PS X st t) : PSs X [st] t := by
  intro pins s σ H D I h
  refine wpAny_execs_cons (thn (h1 pins s σ H D I h) fun f s1 q => ?_)
  cases f with
  | next => exact wpAny_execs_nil q
  | ret v => exact q
  | brk => exact q
  | cont => exact q
/-- in a def's body nothing is shown -/
theorem Inv.quiet {pins : List (Addr × Obj)} {σ : St} {H : Hp} {s : Shared} (I : Inv X pins σ H s) : interactive X.env = false := by simp [interactive, I.ok.kind]
/-- an expression whose value is dropped -/
def tDrop (te : TE) : TS := fun D σ H => te σ H fun _ H1 => D.nx σ H1
theorem ps_expr (he : PE X e te) (hs : swapsWith e none pos.line X.env = pure false := by rfl) : PS X (.Expr e pos) (tDrop te) := by
  intro pins s σ H D I h
  exact wpAny_Expr_any (thn (he pins s σ H _ I h) fun v s1 ⟨x, H1, I1, r1, q1⟩ => ⟨σ, H1, I1, q1⟩) I.quiet hs
def tRet (te : TE) : TS := fun D σ H => te σ H D.rt
theorem ps_ret (he : PE X e te) : PS X (.Return (some e) pos) (tRet te) := by
  intro pins s σ H D I h
  exact wpAny_Return_some (thn (he pins s σ H _ I h) fun v s1 ⟨x, H1, I1, r1, q1⟩ => ⟨x, σ, H1, I1, r1, q1⟩)
def tIfS (c : TT) (t u : TS) : TS := fun D σ H => c σ H fun b H1 => if b = true then t D σ H1 else u D σ H1
theorem ps_if {c : Expr} {a b : List Stmt} {tc : TT} (hc : PT X c tc) (ha : PSs X a t) (hb : PSs X b u) : PS X (.If c a b pos) (tIfS tc t u) := by
  intro pins s σ H D I h
  refine wpAny_If (thn (hc pins s σ H _ I h) fun d s1 ⟨H1, I1, q1⟩ => ?_)
  cases d with
  | true => exact ha pins s1 σ H1 D I1 q1
  | false => exact hb pins s1 σ H1 D I1 q1
/-- code that the proof never comes to -/
def tNever : TS := fun _ _ _ => False
theorem pss_never {sts : List Stmt} : PSs X sts tNever := fun _ _ _ _ _ _ h => h.elim
end

/-! ### targets -/
abbrev TG := V → St → Hp → (St → Hp → Prop) → Prop
def PG (X : Cx) (target : Expr) (t : TG) : Prop :=
  ∀ (pins : List (Addr × Obj)) (s : Shared) (σ : St) (H : Hp) (v : V) (u : Value) (Q : St → Hp → Prop), Inv X pins σ H s → RelV v u → t v σ H Q →
    wpAny (model X.prog X.w) X.A (assign target X.env u) (fun _ s' => ∃ σ' H', Inv X pins σ' H' s' ∧ Q σ' H') X.xe s
/-- a op= b, by values -/
abbrev TIp := V → V → Hp → VK → Prop
def PIp (X : Cx) (op : Operator) (t : TIp) : Prop :=
  ∀ (pins : List (Addr × Obj)) (s : Shared) (σ : St) (H : Hp) (x y : V) (v u : Value) (Q : VK), Inv X pins σ H s → RelV x v → RelV y u → t x y H Q →
    wpAny (model X.prog X.w) X.A (inplaceOp op v u) (EP X pins σ Q) X.xe s
section
variable {X : Cx} {pos : Pos}
def gName (i : Nat) : TG := fun v σ H Q => Q (σ.set i (some v)) H
theorem pg_name {i : Nat} {x : Str} (hN : X.N.Nodup) (hi : X.N[i]? = some x) (hx : Loc X.env.scope x) (hf : X.fn x = true ∨ X.env.scope.names.lookup x = some .local := by first | exact .inl rfl | exact .inr rfl | assumption) : PG X (.Name x pos) (gName i) := by
  intro pins s σ H v u Q I r h
  exact wpAny_assign_Name (store_ok I hN hi hx r (fun s' I' => ⟨_, H, I', h⟩) hf)
/-- target = value -/
def tAsg (te : TE) (g : TG) : TS := fun D σ H => te σ H fun x H1 => g x σ H1 D.nx
/-- name = value -/
theorem ps_set {i : Nat} {x : Str} {e : Expr} {te : TE} {pos' : Pos} (hN : X.N.Nodup) (hi : X.N[i]? = some x) (hx : Loc X.env.scope x) (he : PE X e te) (hs : swapsWith e (some (.Name x pos')) pos.line X.env = pure false := by rfl) (hf : X.fn x = true ∨ X.env.scope.names.lookup x = some .local := by first | exact .inl rfl | exact .inr rfl | assumption) :
    PS X (.Assign [.Name x pos'] e pos) (tAsg te (gName i)) := by
  intro pins s σ H D I h
  refine wpAny_Assign_Name (thn (he pins s σ H _ I h) fun v s1 ⟨y, H1, I1, r1, q1⟩ => ?_) hs
  exact store_ok I1 hN hi hx r1 (fun s2 I2 => ⟨_, H1, I2, q1⟩) hf
/-- name op= e -/
def tAug (i : Nat) (te : TE) (ti : TIp) : TS := fun D σ H => ∃ x, σ[i]? = some (some x) ∧ te σ H fun y H1 => ti x y H1 fun z H2 => D.nx (σ.set i (some z)) H2
theorem ps_aug {i : Nat} {x : Str} {e : Expr} {te : TE} {op : Operator} {ti : TIp} {pos' : Pos} (hN : X.N.Nodup) (hi : X.N[i]? = some x) (hx : Loc X.env.scope x) (he : PE X e te) (ho : PIp X op ti) (hf : X.fn x = true ∨ X.env.scope.names.lookup x = some .local := by first | exact .inl rfl | exact .inr rfl | assumption) :
    PS X (.AugAssign (.Name x pos') op e pos) (tAug i te ti) := by
  intro pins s σ H D I h
  obtain ⟨v, e1, h⟩ := h
  obtain ⟨m, hn, hl⟩ := I.loc
  have vis : Vis X.env.scope x := by rcases hx with k | k; exact .inl k; exact .inr (.inl k)
  obtain ⟨u, r, l⟩ := hl i x v hi e1 vis
  refine wpAny_AugAssign_Name ?_
  have go : wpAny (model X.prog X.w) X.A (eval e X.env) (fun w s₂ => wpAny (model X.prog X.w) X.A (inplaceOp op u w) (fun r s₃ => wpAny (model X.prog X.w) X.A (storeName X.env x r) (fun _ => SP X pins D .next) X.xe s₃) X.xe s₂) X.xe s := by
    refine thn (he pins s σ H _ I h) fun w s1 ⟨y, H1, I1, r1, q1⟩ => ?_
    refine thn (ho pins s1 σ H1 v y u w _ I1 r r1 q1) fun z s2 ⟨zv, H2, I2, r2, q2⟩ => ?_
    exact store_ok I2 hN hi hx r2 (fun s3 I3 => ⟨_, H2, I3, q2⟩) hf
  rcases l with ⟨hk, hm⟩ | ⟨hk, c, hc, hcell⟩
  · exact wpAny_loadName_local I.ok.kind hk hn hm go
  · rcases hk with hk | hk
    · exact wpAny_loadName_cell I.ok.kind hk hc hcell go
    · rcases hx with k | k
      · have : X.env.scope.names.lookup x = some .free := hk
        rw [k] at this; cases this
      · have : X.env.scope.names.lookup x = some .free := hk
        rw [k] at this; cases this
/-- ints -/
def ipI (f : Int → Int → Int) : TIp := fun x y H Q => ∃ i j, x = .int i ∧ y = .int j ∧ Q (.int (f i j)) H
theorem ip_add : PIp X .Add (ipI fun i j => i + j) := by
  intro pins s σ H x y v u Q I r1 r2 h
  obtain ⟨i, j, e1, e2, q⟩ := h
  subst e1; subst e2
  obtain ⟨t, rfl⟩ := r1
  obtain ⟨t', rfl⟩ := r2
  exact iadd_int ⟨.int _, H, I.tok _, ⟨_, rfl⟩, q⟩
end

/-! ### while -/
section
variable {X : Cx} {pos : Pos}
/-- the invariant W with its measure -/
def tWhile (c : TT) (tb : TS) : TS := fun D σ H => ∃ W : Nat → St → Hp → Prop, (∃ m, W m σ H) ∧ ∀ m σ H, W m σ H →
  c σ H fun b H1 => if b = true then ∃ N : St → Hp → Prop, (∀ σ' H', N σ' H' → ∃ m', m' < m ∧ W m' σ' H') ∧ tb { D with nx := N, ct := N, bk := D.nx } σ H1 else D.nx σ H1
theorem ps_while {c : Expr} {body : List Stmt} {tc : TT} {tb : TS} (hp : PassesOwn (model X.prog X.w) X.A X.env X.xe) (hc : PT X c tc) (hb : PSs X body tb) : PS X (.While c body [] pos) (tWhile tc tb) := by
  intro pins s σ H D I h
  obtain ⟨W, ⟨m0, w0⟩, turn⟩ := h
  refine wpAny_While (codeAny_whileLoop (fun n s' => ∃ σ' H', Inv X pins σ' H' s' ∧ W n σ' H') ?_ m0 ⟨σ, H, I, w0⟩)
  rintro n s1 ⟨σ1, H1, I1, w1⟩
  refine wpAny_passesOwn hp (thn (hc pins s1 σ1 H1 _ I1 (turn n σ1 H1 w1)) fun b s2 ⟨H2, I2, q2⟩ => ?_)
  cases b with
  | true =>
    obtain ⟨N, hN, q2⟩ := q2
    rw [if_pos rfl]
    refine wpAny_passesOwn hp (thn (hb pins s2 σ1 H2 _ I2 q2) fun f s3 q3 => ?_)
    cases f with
    | next =>
      obtain ⟨σ3, H3, I3, n3⟩ := q3
      obtain ⟨m', hm, w3⟩ := hN σ3 H3 n3
      exact ⟨m', hm, σ3, H3, I3, w3⟩
    | cont =>
      obtain ⟨σ3, H3, I3, n3⟩ := q3
      obtain ⟨m', hm, w3⟩ := hN σ3 H3 n3
      exact ⟨m', hm, σ3, H3, I3, w3⟩
    | brk => exact q3
    | ret v => exact q3
  | false =>
    rw [if_neg Bool.false_ne_true]
    exact wpAny_execs_nil ⟨σ1, H2, I2, q2⟩
end

/-! ### what a loop or a comprehension walks -/
/-- at turn i: it yields x (the heap may grow), or it stops -/
structure It where
  go : Nat → Hp → Prop
  yld : Nat → Hp → V → Hp → Prop
  stop : Nat → Hp → Prop
/-- the iterator's own objects may turn: they are not the frame's, not pinned, younger than the entry (or a comprehension's own) -/
def FpOk (X : Cx) (pins : List (Addr × Obj)) (H : Hp) (b : Addr) : Prop :=
  H b = none ∧ b ≠ X.env.locals ∧ b ∉ X.fs ∧ (b ∈ X.ex ∨ X.s_0.heap.objs.size ≤ b) ∧ (∀ x c, X.env.cells.lookup x = some c → c ≠ b) ∧ ∀ p ∈ X.pn ++ pins, p.1 ≠ b
theorem Inv.fpOk {X : Cx} {pins : List (Addr × Obj)} {σ : St} {H H' : Hp} {s : Shared} {b : Addr} (I : Inv X pins σ H s) (hb : s.heap.objs.size ≤ b) (hn : H' b = none) : FpOk X pins H' b := by
  refine ⟨hn, Nat.ne_of_gt (Nat.lt_of_lt_of_le I.lt hb), I.nofs hb, .inr (Nat.le_trans I.sz hb), fun x c e z => ?_, fun p hp z => ?_⟩
  · obtain ⟨v, q⟩ := I.cell x c e
    exact absurd (Nat.lt_of_lt_of_le q.lt (by rw [z]; exact hb)) (Nat.lt_irrefl _)
  · exact absurd (Nat.lt_of_lt_of_le (Heap.lt_size (I.pin p hp).1) (by rw [z]; exact hb)) (Nat.lt_irrefl _)
structure Turn (P : Program) (w : World) (K : PySem.W.Frag) (tg : Expr) (J : It) (fp : List Addr) (it : Addr) (tn : Nat → Heap → Prop) : Prop where
  mem : it ∈ fp
  obj : ∀ i h, tn i h → ∀ b ∈ fp, ∃ o, h.get? b = some o ∧ ∀ v, o.data ≠ .cell v
  keep : ∀ i h h', tn i h → (∀ b ∈ fp, ∀ o, h.get? b = some o → h'.get? b = some o) → tn i h'
  item : ∀ (X : Cx), X.prog = P → X.w = w → X.K = K → X.calm = true → ∀ (i : Nat) (pins : List (Addr × Obj)) (s : Shared) (σ : St) (H : Hp) (E : Value → Shared → Prop), Inv X pins σ H s → (∀ b ∈ fp, FpOk X pins H b) → tn i s.heap → J.go i H →
    wpAny (model P w) X.A (pyNext (.ref it)) (fun r s1 => ∃ u, r = some u ∧
      wpAny (model P w) X.A (letOwnedTupleGo tg (.ref it) u) (fun _ s2 => ∃ x H', Inv X pins σ H' s2 ∧ RelV x u ∧ J.yld i H x H' ∧ tn (i + 1) s2.heap ∧ ∀ b ∈ fp, H' b = none) E s1) E s
  done : ∀ (X : Cx), X.prog = P → X.w = w → X.K = K → X.calm = true → ∀ (i : Nat) (pins : List (Addr × Obj)) (s : Shared) (σ : St) (H : Hp) (E : Value → Shared → Prop), Inv X pins σ H s → (∀ b ∈ fp, FpOk X pins H b) → tn i s.heap → J.stop i H →
    wpAny (model P w) X.A (pyNext (.ref it)) (fun r s1 => r = none ∧ Inv X pins σ H s1) E s
  self : ∀ (A : Around) (i : Nat) (s : Shared) (Q : Value → Shared → Prop) (E : Value → Shared → Prop), tn i s.heap → Q (.ref it) s → wpAny (model P w) A (pyIter (.ref it)) Q E s
abbrev TI := St → Hp → (It → Hp → Prop) → Prop
/-- an iterator has come -/
def PIE (X : Cx) (pins : List (Addr × Obj)) (σ : St) (tg : Expr) (R : It → Hp → Prop) (itv : Value) (s2 : Shared) : Prop :=
  ∃ (it : Addr) (fp : List Addr) (tn : Nat → Heap → Prop) (J : It) (H' : Hp), itv = .ref it ∧ Inv X pins σ H' s2 ∧ Turn X.prog X.w X.K tg J fp it tn ∧ tn 0 s2.heap ∧ (∀ b ∈ fp, FpOk X pins H' b) ∧ R J H'
def PI (X : Cx) (tg iter : Expr) (wi : TI) : Prop :=
  ∀ (pins : List (Addr × Obj)) (s : Shared) (σ : St) (H : Hp) (R : It → Hp → Prop), Inv X pins σ H s → wi σ H R →
    wpAny (model X.prog X.w) X.A (eval iter X.env) (fun v s1 => wpAny (model X.prog X.w) X.A (pyIter v) (PIE X pins σ tg R) X.xe s1) X.xe s

/-- the step ahead of the store is nothing for an iterator that keeps no tuple -/
theorem go_of {M : Model} {A : Around} {E : Value → Shared → Prop} {s : Shared} {tg : Expr} {it : Addr} {u : Value} {o : Obj} {n : String} {vs : Array Value} {Q : Unit → Shared → Prop} (ho : s.heap.get? it = some o) (hc : o.cls = .type n) (hd : o.data = .fields vs)
    (hn : ["enumerate", "zip", "dict_itemiterator", "dict_reverseitemiterator", "odict_iterator", "itertools.zip_longest", "itertools.pairwise"].contains n = false) (hQ : Q () s) : wpAny M A (letOwnedTupleGo tg (.ref it) u) Q E s := by
  unfold letOwnedTupleGo
  cases tg <;> first
    | exact wpAny_pure hQ
    | (cases u <;> first
        | exact wpAny_pure hQ
        | (refine wpAny_bind (wpAny_load ho ?_)
           rw [hc, hd]
           show wpAny M A (if (["enumerate", "zip", "dict_itemiterator", "dict_reverseitemiterator", "odict_iterator", "itertools.zip_longest", "itertools.pairwise"].contains n && vs[0]? == some (rawInt _)) = true then _ else _) Q E s
           rw [if_neg (by intro h; rw [hn, Bool.false_and] at h; cases h)]
           exact wpAny_pure hQ))

/-- the list at a, as it stands at each turn (a loop may append to it) -/
def Itl (K : PySem.W.Frag) (a : Addr) : It :=
  ⟨fun i H => ∃ xs x, SqL K H a xs ∧ xs[i]? = some x, fun i H x H' => H' = H ∧ ∀ xs, SqL K H a xs → xs[i]? = some x, fun i H => ∃ xs, SqL K H a xs ∧ xs.length ≤ i⟩
/-- lo, lo + 1, .. (n of them) -/
def Itr (lo : Int) (n : Nat) : It := ⟨fun i _ => i < n, fun i H x H' => H' = H ∧ x = .int (lo + i), fun i _ => n ≤ i⟩
theorem turn_list {P : Program} {w : World} {K : PySem.W.Frag} {tg : Expr} (a it : Addr) : Turn P w K tg (Itl K a) [it] it (fun i h => h.IsListIter it a i) where
  mem := by simp
  obj := fun i h st b hb => by
    have e : b = it := by simpa using hb
    subst e
    obtain ⟨o, e, c, d⟩ := st
    exact ⟨o, e, fun v z => by rw [d] at z; cases z⟩
  keep := fun i h h' st k => st.at fun o e => k it (by simp) o e
  item := by
    intro X hP hw hK hc i pins s σ H E I hf st hg
    subst hP hw hK
    obtain ⟨xs, x, hq, hx⟩ := hg
    obtain ⟨its, rv, p, hz⟩ := I.list hq
    obtain ⟨u, hu, ru⟩ := rv.get hx
    obtain ⟨f0, f1, f2, f3, f4, f5⟩ := hf it (by simp)
    refine wpAny_pyNext_list_item st p.isList (x := u) (by simpa using hu) fun h' st' sb => ?_
    have I1 : Inv X pins σ H { s with heap := h' } := I.turned (t' := s.toks) (fun b o hb e => (sb.2 b hb).trans e) f0 f1 f3 f4 f5
    obtain ⟨o, e, c, d⟩ := id st'
    exact ⟨u, rfl, go_of (s := { s with heap := h' }) e c d (by decide) ⟨x, H, I1, ru, ⟨rfl, fun ys hy => by rw [I.list_inj hy hq]; exact hx⟩, st', fun b hb => (hf b hb).1⟩⟩
  done := by
    intro X hP hw hK hc i pins s σ H E I hf st hg
    subst hP hw hK
    obtain ⟨xs, hq, hx⟩ := hg
    obtain ⟨its, rv, p, hz⟩ := I.list hq
    obtain ⟨f0, f1, f2, f3, f4, f5⟩ := hf it (by simp)
    have hl := rv.length
    exact wpAny_pyNext_list_end (I.ok.hd hc) st p.isList (by simp; omega) fun h' eb => ⟨rfl, I.turned (t' := s.toks) (fun b o hb e => eb b o hb e) f0 f1 f3 f4 f5⟩
  self := fun _ _ _ _ _ st h => wpAny_pyIter_listiter st h
theorem turn_range {P : Program} {w : World} {K : PySem.W.Frag} {tg : Expr} (it : Addr) (lo : Int) (n : Nat) : Turn P w K tg (Itr lo n) [it] it (fun i h => IsRangeIter h it (lo + (i : Nat) * 1) ((n : Int) - (i : Nat)) 1) where
  mem := by simp
  obj := fun i h st b hb => by
    have e : b = it := by simpa using hb
    subst e
    exact ⟨_, st, fun v z => by
      have z' : Data.fields _ = Data.cell v := z
      cases z'⟩
  keep := fun i h h' st k => k it (by simp) _ st
  item := by
    intro X hP hw hK hc i pins s σ H E I hf st hg
    subst hP hw hK
    obtain ⟨f0, f1, f2, f3, f4, f5⟩ := hf it (by simp)
    have W := Walks.range (prog := X.prog) (w := X.w) (I.ok.hd hc) it lo 1 n
    refine W.item i s _ _ hg st fun v h' tk hv st' kk => ?_
    obtain ⟨t, rfl⟩ := hv
    have I1 : Inv X pins σ H { s with heap := h', toks := tk } := I.turned (fun b o hb e => kk b o (by simpa using hb) e) f0 f1 f3 f4 f5
    refine ⟨_, rfl, go_of (s := { s with heap := h', toks := tk }) (n := "range_iterator") st' rfl rfl (by decide) ⟨.int (lo + i), H, I1, ⟨t, ?_⟩, ⟨rfl, rfl⟩, st', fun b hb => (hf b hb).1⟩⟩
    rw [Int.mul_one]
  done := by
    intro X hP hw hK hc i pins s σ H E I hf st hg
    subst hP hw hK
    obtain ⟨f0, f1, f2, f3, f4, f5⟩ := hf it (by simp)
    exact wpAny_pyNext_range_end (I.ok.hd hc) st (by have : n ≤ i := hg; omega) fun h' eb => ⟨rfl, I.turned (t' := s.toks) (fun b o hb e => eb b o hb e) f0 f1 f3 f4 f5⟩
  self := fun _ _ _ _ _ st h => wpAny_pyIter_rangeiter st h
end L2

namespace L2
open PySem PySem.Spec PyProof.Rows
section
variable {X : Cx} {tg : Expr}
def iList (K : PySem.W.Frag) (tl : TE) : TI := fun σ H R => tl σ H fun x H1 => ∃ a, x = .ref a ∧ (∃ xs, SqL K H1 a xs) ∧ R (Itl K a) H1
theorem pi_list {l : Expr} {tl : TE} (hl : PE X l tl) : PI X tg l (iList X.K tl) := by
  intro pins s σ H R I h
  refine thn (hl pins s σ H _ I h) fun v s1 ⟨x, H1, I1, r1, q1⟩ => ?_
  obtain ⟨a, e, ⟨xs, hq⟩, q⟩ := q1
  subst e
  cases r1
  obtain ⟨its, rv, p, hz⟩ := I1.list hq
  refine wpAny_pyIter_list p.isList ?_
  refine ⟨s1.heap.objs.size, [s1.heap.objs.size], _, _, H1, rfl, I1.kept (t' := s1.toks) fun b o e => Heap.get?_push_of_some _ e, turn_list a _, ⟨_, Heap.get?_push_size _ rfl, rfl, rfl⟩, fun b hb => ?_, q⟩
  have e : b = s1.heap.objs.size := by simpa using hb
  subst e
  exact I1.fpOk (Nat.le_refl _) (I1.hok.fresh (Nat.le_refl _))
/-- a range object just made, walked -/
theorem range_it {pins : List (Addr × Obj)} {σ : St} {H : Hp} {s : Shared} {R : It → Hp → Prop} {E : Value → Shared → Prop} {lo hi : Int} {t u v : Tok} {tk : Nat} (I : Inv X pins σ H s) (h1 : -(2 ^ 62) ≤ lo) (h2 : lo < 2 ^ 62) (h3 : -(2 ^ 62) ≤ hi) (h4 : hi < 2 ^ 62)
    (q : R (Itr lo (hi - lo).toNat) H) : wpAny (model X.prog X.w) X.A (pyIter (.ref s.heap.objs.size)) (PIE X pins σ tg R) E { s with heap := s.heap.push { cls := .type "range", data := .fields #[.int lo t, .int hi u, .int 1 v] }, toks := tk } := by
  refine wpAny_pyIter_range (IsRange.new ..) (small_one h1 h2 h3 h4) ?_
  have I1 : Inv X pins σ H { s with heap := s.heap.push { cls := .type "range", data := .fields #[.int lo t, .int hi u, .int 1 v] }, toks := tk } := I.kept fun b o e => Heap.get?_push_of_some _ e
  refine ⟨(s.heap.push { cls := .type "range", data := .fields #[.int lo t, .int hi u, .int 1 v] }).objs.size, [(s.heap.push { cls := .type "range", data := .fields #[.int lo t, .int hi u, .int 1 v] }).objs.size], _, _, H, rfl,
    I1.kept (t' := tk) fun b o e => Heap.get?_push_of_some _ e, turn_range _ lo (hi - lo).toNat, ?_, fun b hb => ?_, q⟩
  · have e1 : lo + ((0 : Nat) : Int) * 1 = lo := by simp
    have e2 : (((hi - lo).toNat : Nat) : Int) - ((0 : Nat) : Int) = Builtin.Range.rangeSize lo hi 1 := by rw [rangeSize_one]; split <;> omega
    show IsRangeIter _ _ (lo + ((0 : Nat) : Int) * 1) ((((hi - lo).toNat : Nat) : Int) - ((0 : Nat) : Int)) 1
    rw [e1, e2]
    exact Heap.get?_push_size _ rfl
  · have e : b = (s.heap.push { cls := .type "range", data := .fields #[.int lo t, .int hi u, .int 1 v] }).objs.size := by simpa using hb
    subst e
    exact I1.fpOk (Nat.le_refl _) (I1.hok.fresh (Nat.le_refl _))
def iRng1 (ta : TA) : TI := fun σ H R => ta σ H fun vs H1 => ∃ j : Int, vs = [.int j] ∧ -(2 ^ 62) ≤ j ∧ j < 2 ^ 62 ∧ R (Itr 0 j.toNat) H1
theorem pi_range1 {a : Expr} {ta : TA} {p pos : Pos} (hg : Gl X "range") (hm : X.mg "range" = none) (ha : PA X [a] ta) (hs : starEach [a] X.env = [(false, eval a X.env)] := by rfl) : PI X tg (.Call (.Name "range" p) [a] [] pos) (iRng1 ta) := by
  intro pins s σ H R I h
  refine Call_ (ld_blt I hg hm boot_range (PyProof.Rows.callWith_type1 (thn (ha pos pins s σ H _ I h) fun us s1 ⟨vs, H1, I1, r1, q1⟩ => ?_) hs rfl))
  obtain ⟨j, e, q1, q2, q⟩ := q1
  subst e
  cases r1 with
  | cons r rr =>
    cases rr
    obtain ⟨t, rfl⟩ := r
    exact call_range_1 (range_it I1 (by omega) (by omega) q1 q2 (by simpa using q))

/-! ### for -/
/-- W: the invariant by the turn and a measure; N: what the body is to reach -/
def tFor (wi : TI) (g : TG) (tb : TS) : TS := fun D σ H => wi σ H fun J H1 => ∃ W : Nat → Nat → St → Hp → Prop, (∃ m, W 0 m σ H1) ∧ ∀ i m σ H, W i m σ H →
  (J.stop i H ∧ D.nx σ H) ∨ (J.go i H ∧ ∃ N : St → Hp → Prop, (∀ σ' H', N σ' H' → ∃ m', m' < m ∧ W (i + 1) m' σ' H') ∧ ∀ x H', J.yld i H x H' → g x σ H' fun σ2 H2 => tb { D with nx := N, ct := N, bk := D.nx } σ2 H2)
/-- the records at fp as they stand -/
def pinsAt (fp : List Addr) (h : Heap) : List (Addr × Obj) := fp.filterMap fun b => (h.get? b).map fun o => (b, o)
theorem mem_pinsAt {fp : List Addr} {h : Heap} {b : Addr} {o : Obj} (hb : b ∈ fp) (e : h.get? b = some o) : (b, o) ∈ pinsAt fp h := List.mem_filterMap.mpr ⟨b, hb, by rw [e]; rfl⟩
theorem of_pinsAt {fp : List Addr} {h : Heap} {p : Addr × Obj} (hp : p ∈ pinsAt fp h) : p.1 ∈ fp ∧ h.get? p.1 = some p.2 := by
  obtain ⟨b, hb, e⟩ := List.mem_filterMap.mp hp
  cases q : h.get? b with
  | none => rw [q] at e; cases e
  | some o =>
    rw [q] at e
    have e' : (b, o) = p := Option.some.inj e
    subst e'
    exact ⟨hb, q⟩
theorem Inv.pinned {pins : List (Addr × Obj)} {σ : St} {H : Hp} {s : Shared} {fp : List Addr} (I : Inv X pins σ H s) (hf : ∀ b ∈ fp, FpOk X pins H b) (ho : ∀ b ∈ fp, ∃ o, s.heap.get? b = some o ∧ ∀ v, o.data ≠ .cell v) : Inv X (pins ++ pinsAt fp s.heap) σ H s :=
  I.pins_of fun p hp => (List.mem_append.mp hp).elim (fun z => I.pin p (List.mem_append_right _ z)) fun z => by
    obtain ⟨hb, e⟩ := of_pinsAt z
    obtain ⟨f0, f1, f2, _⟩ := hf p.1 hb
    obtain ⟨o, e', d⟩ := ho p.1 hb
    rw [e] at e'; cases e'
    exact ⟨e, f0, f1, f2, d⟩
theorem Inv.unpinned {pins pl : List (Addr × Obj)} {σ : St} {H : Hp} {s : Shared} (I : Inv X (pins ++ pl) σ H s) : Inv X pins σ H s := I.pins_of fun p hp => I.pin p (List.mem_append_right _ (List.mem_append_left _ hp))
theorem ps_for {iter : Expr} {body : List Stmt} {wi : TI} {g : TG} {tb : TS} {pos : Pos} (hp : PassesOwn (model X.prog X.w) X.A X.env X.xe) (hc : X.calm = true) (hi : PI X tg iter wi) (hg : PG X tg g) (hb : PSs X body tb)
    (hs : ∀ x, foldedSetIterable iter X.env x = pure x := by intro _; rfl) : PS X (.For tg iter body [] pos) (tFor wi g tb) := by
  intro pins s σ H D I h
  refine wpAny_For (thn (hi pins s σ H _ I h) fun v s1 h1 => thn h1 fun itv s2 h2 => ?_) hs
  obtain ⟨it, fp, tn, J, H2, e, I2, T, st2, f2, W, ⟨m0, w0⟩, turn⟩ := h2
  subst e
  -- what stays true of the iterator's objects through the loop
  have stat : ∀ {H' : Hp}, (∀ b ∈ fp, H' b = none) → ∀ b ∈ fp, FpOk X pins H' b := fun hn b hb => ⟨hn b hb, (f2 b hb).2⟩
  refine codeAny_forLoop_any (fun n s' => ∃ i σ' H', Inv X pins σ' H' s' ∧ tn i s'.heap ∧ (∀ b ∈ fp, H' b = none) ∧ W i n σ' H') ?_ m0 ⟨0, σ, H2, I2, st2, fun b hb => (f2 b hb).1, w0⟩
  rintro n s3 ⟨i, σ3, H3, I3, st3, fr3, w3⟩
  rcases turn i n σ3 H3 w3 with ⟨stop, qn⟩ | ⟨go, N, hN, step⟩
  · refine wpAny_passesOwn hp (thn (T.done X rfl rfl rfl hc i pins s3 σ3 H3 X.xe I3 (stat fr3) st3 stop) fun r s4 ⟨hr, I4⟩ => ?_)
    subst hr
    exact wpAny_execs_nil ⟨σ3, H3, I4, qn⟩
  · refine wpAny_passesOwn hp (thn (T.item X rfl rfl rfl hc i pins s3 σ3 H3 X.xe I3 (stat fr3) st3 go) fun r s4 ⟨u, hr, h4⟩ => ?_)
    subst hr
    refine wpAny_passesOwn hp (thn h4 fun _ s5 ⟨x, H5, I5, r5, y5, st5, fr5⟩ => ?_)
    have I5' := I5.pinned (stat fr5) (T.obj _ _ st5)
    refine wpAny_passesOwn hp (thn (hg _ s5 σ3 H5 x u _ I5' r5 (step x H5 y5)) fun _ s6 ⟨σ6, H6, I6, q6⟩ => ?_)
    refine wpAny_passesOwn hp (thn (hb _ s6 σ6 H6 _ I6 q6) fun f s7 q7 => ?_)
    have again : ∀ {σ7 : St} {H7 : Hp}, Inv X (pins ++ pinsAt fp s5.heap) σ7 H7 s7 → N σ7 H7 → ∃ m, m < n ∧ ∃ i σ' H', Inv X pins σ' H' s7 ∧ tn i s7.heap ∧ (∀ b ∈ fp, H' b = none) ∧ W i m σ' H' := fun {σ7 H7} I7 n7 => by
      obtain ⟨m', hm, w7⟩ := hN σ7 H7 n7
      refine ⟨m', hm, i + 1, σ7, H7, I7.unpinned, T.keep _ _ _ st5 fun b hb o e => (I7.pin (b, o) (List.mem_append_right _ (List.mem_append_right _ (mem_pinsAt hb e)))).1, fun b hb => ?_, w7⟩
      obtain ⟨o, e, d⟩ := T.obj _ _ st5 b hb
      exact (I7.pin (b, o) (List.mem_append_right _ (List.mem_append_right _ (mem_pinsAt hb e)))).2.1
    cases f with
    | next => obtain ⟨σ7, H7, I7, n7⟩ := q7; exact again I7 n7
    | cont => obtain ⟨σ7, H7, I7, n7⟩ := q7; exact again I7 n7
    | brk => obtain ⟨σ7, H7, I7, q7⟩ := q7; exact ⟨σ7, H7, I7.unpinned, q7⟩
    | ret v => obtain ⟨x7, σ7, H7, I7, r7, q7⟩ := q7; exact ⟨x7, σ7, H7, I7.unpinned, r7, q7⟩
end

/-! ### the forms one uses -/
/-- over a list that the body leaves as it is -/
theorem for_list {K : PySem.W.Frag} {a : Addr} {xs : List V} {g : TG} {tb : TS} {D : Ends} {σ : St} {H : Hp} (Pv : Nat → St → Hp → Prop) (h0 : Pv 0 σ H) (hl : ∀ i σ H, i ≤ xs.length → Pv i σ H → SqL K H a xs)
    (hs : ∀ i x σ H, xs[i]? = some x → Pv i σ H → g x σ H fun σ2 H2 => tb { D with nx := Pv (i + 1), ct := Pv (i + 1), bk := D.nx } σ2 H2) (hd : ∀ σ H, Pv xs.length σ H → D.nx σ H) :
    ∃ W : Nat → Nat → St → Hp → Prop, (∃ m, W 0 m σ H) ∧ ∀ i m σ H, W i m σ H →
      ((Itl K a).stop i H ∧ D.nx σ H) ∨ ((Itl K a).go i H ∧ ∃ N : St → Hp → Prop, (∀ σ' H', N σ' H' → ∃ m', m' < m ∧ W (i + 1) m' σ' H') ∧ ∀ x H', (Itl K a).yld i H x H' → g x σ H' fun σ2 H2 => tb { D with nx := N, ct := N, bk := D.nx } σ2 H2) := by
  refine ⟨fun i m σ H => m = xs.length - i ∧ i ≤ xs.length ∧ Pv i σ H, ⟨xs.length, by simp, Nat.zero_le _, h0⟩, ?_⟩
  rintro i m σ H ⟨rfl, hi, p⟩
  have q := hl i σ H hi p
  by_cases hlt : i < xs.length
  · refine .inr ⟨⟨xs, xs[i], q, by simp [hlt]⟩, Pv (i + 1), fun σ' H' p' => ⟨xs.length - (i + 1), by omega, rfl, hlt, p'⟩, fun x H' y => ?_⟩
    obtain ⟨e, y⟩ := y
    subst e
    exact hs i x σ _ (y xs q) p
  · have e : i = xs.length := by omega
    subst e
    exact .inl ⟨⟨xs, q, Nat.le_refl _⟩, hd σ H p⟩
theorem for_range {lo : Int} {n : Nat} {g : TG} {tb : TS} {D : Ends} {σ : St} {H : Hp} (Pv : Nat → St → Hp → Prop) (h0 : Pv 0 σ H)
    (hs : ∀ i σ H, i < n → Pv i σ H → g (.int (lo + i)) σ H fun σ2 H2 => tb { D with nx := Pv (i + 1), ct := Pv (i + 1), bk := D.nx } σ2 H2) (hd : ∀ σ H, Pv n σ H → D.nx σ H) :
    ∃ W : Nat → Nat → St → Hp → Prop, (∃ m, W 0 m σ H) ∧ ∀ i m σ H, W i m σ H →
      ((Itr lo n).stop i H ∧ D.nx σ H) ∨ ((Itr lo n).go i H ∧ ∃ N : St → Hp → Prop, (∀ σ' H', N σ' H' → ∃ m', m' < m ∧ W (i + 1) m' σ' H') ∧ ∀ x H', (Itr lo n).yld i H x H' → g x σ H' fun σ2 H2 => tb { D with nx := N, ct := N, bk := D.nx } σ2 H2) := by
  refine ⟨fun i m σ H => m = n - i ∧ i ≤ n ∧ Pv i σ H, ⟨n, by simp, Nat.zero_le _, h0⟩, ?_⟩
  rintro i m σ H ⟨rfl, hi, p⟩
  by_cases hlt : i < n
  · refine .inr ⟨hlt, Pv (i + 1), fun σ' H' p' => ⟨n - (i + 1), by omega, rfl, hlt, p'⟩, fun x H' y => ?_⟩
    obtain ⟨e, y⟩ := y
    subst e y
    exact hs i σ _ hlt p
  · have e : i = n := by omega
    subst e
    exact .inl ⟨Nat.le_refl _, hd σ H p⟩
end L2

namespace L2
open PySem PySem.Spec PyProof.Rows

abbrev R2 := V → V → Hp → VK → Prop
/-- a two-place operation on values: f is binaryOp op, inplaceOp op or compareOp op -/
def OpR (X : Cx) (f : Value → Value → Sem Value) (r : R2) : Prop :=
  ∀ (pins : List (Addr × Obj)) (s : Shared) (σ : St) (H : Hp) (x y : V) (v u : Value) (Q : VK), Inv X pins σ H s → RelV x v → RelV y u → r x y H Q →
    wpAny (model X.prog X.w) X.A (f v u) (EP X pins σ Q) X.xe s
/-- a one-place operation -/
def UnR (X : Cx) (f : Value → Sem Value) (r : V → Hp → VK → Prop) : Prop :=
  ∀ (pins : List (Addr × Obj)) (s : Shared) (σ : St) (H : Hp) (x : V) (v : Value) (Q : VK), Inv X pins σ H s → RelV x v → r x H Q →
    wpAny (model X.prog X.w) X.A (f v) (EP X pins σ Q) X.xe s
/-- a call of a value that is known (a builtin, a type) with values -/
def CallR (X : Cx) (f : Value) (r : List V → Hp → VK → Prop) : Prop :=
  ∀ (pins : List (Addr × Obj)) (s : Shared) (σ : St) (H : Hp) (xs : List V) (us : List Value) (Q : VK), Inv X pins σ H s → Vals xs us → r xs H Q →
    wpAny (model X.prog X.w) X.A (call f us) (EP X pins σ Q) X.xe s

def tOp (r : R2) (ta tb : TE) : TE := fun σ H Q => ta σ H fun x H1 => tb σ H1 fun y H2 => r x y H2 Q
def tUn (r : V → Hp → VK → Prop) (ta : TE) : TE := fun σ H Q => ta σ H fun x H1 => r x H1 Q
/-- ints in, under C, and a value out -/
def rI (C : Int → Int → Prop) (g : Int → Int → V) : R2 := fun x y H Q => ∃ i j, x = .int i ∧ y = .int j ∧ C i j ∧ Q (g i j) H
def rI0 (g : Int → Int → V) : R2 := fun x y H Q => ∃ i j, x = .int i ∧ y = .int j ∧ Q (g i j) H
def rU (g : Int → V) : V → Hp → VK → Prop := fun x H Q => ∃ i, x = .int i ∧ Q (g i) H

section
variable {X : Cx} {a b c : Expr} {ta tb tc : TE} {pos : Pos}

theorem binT (ha : PE X a ta) (hb : PE X b tb) {pins : List (Addr × Obj)} {s : Shared} {σ : St} {H : Hp} {R : V → V → Hp → Prop} (I : Inv X pins σ H s)
    (h : ta σ H fun x H1 => tb σ H1 fun y H2 => R x y H2) {Q : Value → Shared → Prop} {f : Value → Value → Sem Value}
    (hf : ∀ v u s2 x y H2, Inv X pins σ H2 s2 → RelV x v → RelV y u → R x y H2 → wpAny (model X.prog X.w) X.A (f v u) Q X.xe s2) :
    wpAny (model X.prog X.w) X.A (eval a X.env) (fun v s₁ => wpAny (model X.prog X.w) X.A (eval b X.env) (fun u s₂ => wpAny (model X.prog X.w) X.A (f v u) Q X.xe s₂) X.xe s₁) X.xe s := by
  refine thn (ha pins s σ H _ I h) fun v s1 ⟨x, H1, I1, r1, q1⟩ => ?_
  refine thn (hb pins s1 σ H1 _ I1 q1) fun u s2 ⟨y, H2, I2, r2, q2⟩ => ?_
  exact hf v u s2 x y H2 I2 r1 r2 q2

theorem pe_op {op : Operator} {r : R2} (ho : OpR X (binaryOp op) r) (ha : PE X a ta) (hb : PE X b tb) : PE X (.BinOp a op b pos) (tOp r ta tb) := by
  intro pins s σ H Q I h
  exact wpAny_BinOp (binT ha hb I h fun v u s2 x y H2 I2 rx ry q => ho pins s2 σ H2 x y v u Q I2 rx ry q)
theorem pe_un {op : UnaryOp} {r : V → Hp → VK → Prop} (ho : UnR X (unaryOp op) r) (ha : PE X a ta) : PE X (.UnaryOp op a pos) (tUn r ta) := by
  intro pins s σ H Q I h
  exact UnaryOp_ (thn (ha pins s σ H _ I h) fun v s1 ⟨x, H1, I1, r1, q1⟩ => ho pins s1 σ H1 x v Q I1 r1 q1)

/-! ### ints -/
theorem opI {f : Value → Value → Sem Value} {C : Int → Int → Prop} {g : Int → Int → Int}
    (rule : ∀ (i j : Int) (t u : Tok) (s : Shared) (Q : Value → Shared → Prop) (E : Value → Shared → Prop), C i j → Q (.int (g i j) s.toks) { s with toks := s.toks + 1 } → wpAny (model X.prog X.w) X.A (f (.int i t) (.int j u)) Q E s) :
    OpR X f (rI C fun i j => .int (g i j)) := by
  intro pins s σ H x y v u Q I rx ry h
  obtain ⟨i, j, rfl, rfl, hc, q⟩ := h
  obtain ⟨t, rfl⟩ := rx
  obtain ⟨t', rfl⟩ := ry
  exact rule i j t t' s _ _ hc ⟨.int (g i j), H, I.tok _, ⟨_, rfl⟩, q⟩
theorem opI0 {f : Value → Value → Sem Value} {g : Int → Int → Int}
    (rule : ∀ (i j : Int) (t u : Tok) (s : Shared) (Q : Value → Shared → Prop) (E : Value → Shared → Prop), Q (.int (g i j) s.toks) { s with toks := s.toks + 1 } → wpAny (model X.prog X.w) X.A (f (.int i t) (.int j u)) Q E s) :
    OpR X f (rI0 fun i j => .int (g i j)) := by
  intro pins s σ H x y v u Q I rx ry h
  obtain ⟨i, j, rfl, rfl, q⟩ := h
  obtain ⟨t, rfl⟩ := rx
  obtain ⟨t', rfl⟩ := ry
  exact rule i j t t' s _ _ ⟨.int (g i j), H, I.tok _, ⟨_, rfl⟩, q⟩
theorem opB0 {f : Value → Value → Sem Value} {g : Int → Int → Bool}
    (rule : ∀ (i j : Int) (t u : Tok) (s : Shared) (Q : Value → Shared → Prop) (E : Value → Shared → Prop), Q (.bool (g i j)) s → wpAny (model X.prog X.w) X.A (f (.int i t) (.int j u)) Q E s) :
    OpR X f (rI0 fun i j => .bl (g i j)) := by
  intro pins s σ H x y v u Q I rx ry h
  obtain ⟨i, j, rfl, rfl, q⟩ := h
  obtain ⟨t, rfl⟩ := rx
  obtain ⟨t', rfl⟩ := ry
  exact rule i j t t' s _ _ ⟨.bl (g i j), H, I, rfl, q⟩

def CMul (i j : Int) : Prop := (-(2 ^ 64) < i ∧ i < 2 ^ 64) ∨ (-(2 ^ 64) < j ∧ j < 2 ^ 64)
theorem CMul.ok {i j : Int} (h : CMul i j) : IntMulOk i j := by
  rcases h with ⟨h1, h2⟩ | ⟨h1, h2⟩
  · exact .of_left (intBits_le_64 h1 h2)
  · exact .of_right (intBits_le_64 h1 h2)
theorem two_pow_nn (k : Nat) : (0 : Int) ≤ 2 ^ k := by
  rw [two_pow_cast]
  exact Int.natCast_nonneg _

theorem op_add : OpR X (binaryOp .Add) (rI0 fun i j => .int (i + j)) := opI0 fun _ _ _ _ _ _ _ q => add_int q
theorem op_sub : OpR X (binaryOp .Sub) (rI0 fun i j => .int (i - j)) := opI0 fun _ _ _ _ _ _ _ q => sub_int q
theorem op_mul : OpR X (binaryOp .Mult) (rI CMul fun i j => .int (i * j)) := opI fun _ _ _ _ _ _ _ hc q => mul_int q hc.ok
/-- % by a positive divisor of any size -/
theorem op_mod : OpR X (binaryOp .Mod) (rI (fun _ j => 0 < j) fun i j => .int (i % j)) := opI fun i j _ _ _ _ _ hc q => by
  have h1 : (0 : Int) < j := hc
  exact mod_int' (by omega) (by rw [Int.fmod_eq_emod_of_nonneg i (by omega)]; exact q)
theorem op_shr : OpR X (binaryOp .RShift) (rI (fun _ j => 0 ≤ j) fun i j => .int (i / 2 ^ j.toNat)) := opI fun i j _ _ _ _ _ hc q =>
  rshift_int hc (by rw [Int.fdiv_eq_ediv_of_nonneg i (two_pow_nn _)]; exact q)
theorem op_and : OpR X (binaryOp .BitAnd) (rI0 fun i j => .int (Builtin.bitAnd i j)) := opI0 fun _ _ _ _ _ _ _ q => and_int q
theorem op_xor : OpR X (binaryOp .BitXor) (rI0 fun i j => .int (Builtin.bitXor i j)) := opI0 fun _ _ _ _ _ _ _ q => xor_int q


theorem unI {f : Value → Sem Value} {g : Int → Int}
    (rule : ∀ (i : Int) (t : Tok) (s : Shared) (Q : Value → Shared → Prop) (E : Value → Shared → Prop), Q (.int (g i) s.toks) { s with toks := s.toks + 1 } → wpAny (model X.prog X.w) X.A (f (.int i t)) Q E s) :
    UnR X f (rU fun i => .int (g i)) := by
  intro pins s σ H x v Q I rx h
  obtain ⟨i, rfl, q⟩ := h
  obtain ⟨t, rfl⟩ := rx
  exact rule i t s _ _ ⟨.int (g i), H, I.tok _, ⟨_, rfl⟩, q⟩
theorem un_neg : UnR X (unaryOp .USub) (rU fun i => .int (-i)) := unI fun _ _ _ _ _ q => neg_int q

/-! ### bools among ints: n += (a < b) -/
end

/-! ### comparisons -/
/-- the scalars that == tells apart as data does -/
def scal : V → V → Bool
  | .non, .non => true | .non, .int _ => true | .int _, .non => true | .non, .bl _ => true | .bl _, .non => true | .non, .str _ => true | .str _, .non => true
  | .int _, .int _ => true | .bl _, .bl _ => true | .str _, .str _ => true | .byt _, .byt _ => true
  | .int _, .str _ => true | .str _, .int _ => true | .bl _, .str _ => true | .str _, .bl _ => true
  | _, _ => false
def rEq : R2 := fun x y H Q => scal x y = true ∧ Q (.bl (decide (x = y))) H
def rNe : R2 := fun x y H Q => scal x y = true ∧ Q (.bl (!decide (x = y))) H

theorem dec_int {i j : Int} : decide (V.int i = V.int j) = (i == j) := by
  rw [Bool.eq_iff_iff]
  simp
theorem dec_bl {i j : Bool} : decide (V.bl i = V.bl j) = (i == j) := by
  rw [Bool.eq_iff_iff]
  simp
theorem dec_str {i j : Str} : decide (V.str i = V.str j) = (i == j) := by
  rw [Bool.eq_iff_iff]
  simp
theorem dec_byt {i j : Array UInt8} : decide (V.byt i = V.byt j) = (i.toList == j.toList) := by
  rw [Bool.eq_iff_iff]
  cases i
  cases j
  simp

section
variable {X : Cx} {a b c : Expr} {ta tb tc : TE} {pos : Pos}
theorem fin_bl {pins : List (Addr × Obj)} {σ : St} {H : Hp} {s : Shared} {Q : VK} {k k' : Bool} (I : Inv X pins σ H s) (q : Q (.bl k) H) (e : k = k') : EP X pins σ Q (.bool k') s := by
  subst e
  exact ⟨.bl k, H, I, rfl, q⟩
theorem op_eq : OpR X (compareOp .Eq) rEq := by
  intro pins s σ H x y v u Q I rx ry h
  obtain ⟨hs, q⟩ := h
  cases x with
  | non =>
    cases rx
    cases y with
    | non => cases ry; exact PySem.EqNone.eq_none_none (fin_bl I q (by simp))
    | bl j => cases ry; exact PySem.EqNone.eq_none_bool (fin_bl I q (by simp))
    | int j => obtain ⟨t', rfl⟩ := ry; exact PySem.EqNone.eq_none_int (fin_bl I q (by simp))
    | str j => obtain ⟨t', rfl⟩ := ry; exact PySem.EqNone.eq_none_str (fin_bl I q (by simp))
    | _ => exact absurd (show false = true from hs) Bool.false_ne_true
  | bl i =>
    cases rx
    cases y with
    | non => cases ry; exact PySem.EqNone.eq_bool_none (fin_bl I q (by simp))
    | bl j => cases ry; exact eq_bool (fin_bl I q dec_bl)
    | str j => obtain ⟨t', rfl⟩ := ry; exact PySem.EqMixed.eq_bool_str (fin_bl I q (by simp))
    | _ => exact absurd (show false = true from hs) Bool.false_ne_true
  | int i =>
    obtain ⟨t, rfl⟩ := rx
    cases y with
    | non => cases ry; exact PySem.EqNone.eq_int_none (fin_bl I q (by simp))
    | int j => obtain ⟨t', rfl⟩ := ry; exact eq_int (fin_bl I q dec_int)
    | str j => obtain ⟨t', rfl⟩ := ry; exact PySem.EqMixed.eq_int_str (fin_bl I q (by simp))
    | _ => exact absurd (show false = true from hs) Bool.false_ne_true
  | str i =>
    obtain ⟨t, rfl⟩ := rx
    cases y with
    | non => cases ry; exact PySem.EqNone.eq_str_none (fin_bl I q (by simp))
    | bl j => cases ry; exact PySem.EqMixed.eq_str_bool (fin_bl I q (by simp))
    | int j => obtain ⟨t', rfl⟩ := ry; exact PySem.EqMixed.eq_str_int (fin_bl I q (by simp))
    | str j => obtain ⟨t', rfl⟩ := ry; exact eq_str (fin_bl I q dec_str)
    | _ => exact absurd (show false = true from hs) Bool.false_ne_true
  | byt i =>
    obtain ⟨t, rfl⟩ := rx
    cases y with
    | byt j => obtain ⟨t', rfl⟩ := ry; exact PySem.W.eq_bytes (fin_bl I q dec_byt)
    | _ => exact absurd (show false = true from hs) Bool.false_ne_true
  | _ => cases y <;> exact absurd (show false = true from hs) Bool.false_ne_true
theorem op_ne : OpR X (compareOp .NotEq) rNe := by
  intro pins s σ H x y v u Q I rx ry h
  obtain ⟨hs, q⟩ := h
  cases x with
  | non =>
    cases rx
    cases y with
    | non => cases ry; exact PySem.EqNone.ne_none_none (fin_bl I q (by simp))
    | bl j => cases ry; exact PySem.EqNone.ne_none_bool (fin_bl I q (by simp))
    | int j => obtain ⟨t', rfl⟩ := ry; exact PySem.EqNone.ne_none_int (fin_bl I q (by simp))
    | str j => obtain ⟨t', rfl⟩ := ry; exact PySem.EqNone.ne_none_str (fin_bl I q (by simp))
    | _ => exact absurd (show false = true from hs) Bool.false_ne_true
  | bl i =>
    cases rx
    cases y with
    | non => cases ry; exact PySem.EqNone.ne_bool_none (fin_bl I q (by simp))
    | bl j => cases ry; exact ne_bool (fin_bl I q (congrArg not dec_bl))
    | str j => obtain ⟨t', rfl⟩ := ry; exact PySem.EqMixed.ne_bool_str (fin_bl I q (by simp))
    | _ => exact absurd (show false = true from hs) Bool.false_ne_true
  | int i =>
    obtain ⟨t, rfl⟩ := rx
    cases y with
    | non => cases ry; exact PySem.EqNone.ne_int_none (fin_bl I q (by simp))
    | int j => obtain ⟨t', rfl⟩ := ry; exact ne_int (fin_bl I q (congrArg not dec_int))
    | str j => obtain ⟨t', rfl⟩ := ry; exact PySem.EqMixed.ne_int_str (fin_bl I q (by simp))
    | _ => exact absurd (show false = true from hs) Bool.false_ne_true
  | str i =>
    obtain ⟨t, rfl⟩ := rx
    cases y with
    | non => cases ry; exact PySem.EqNone.ne_str_none (fin_bl I q (by simp))
    | bl j => cases ry; exact PySem.EqMixed.ne_str_bool (fin_bl I q (by simp))
    | int j => obtain ⟨t', rfl⟩ := ry; exact PySem.EqMixed.ne_str_int (fin_bl I q (by simp))
    | str j => obtain ⟨t', rfl⟩ := ry; exact ne_str (fin_bl I q (congrArg not dec_str))
    | _ => exact absurd (show false = true from hs) Bool.false_ne_true
  | byt i =>
    obtain ⟨t, rfl⟩ := rx
    cases y with
    | byt j => obtain ⟨t', rfl⟩ := ry; exact PySem.W.ne_bytes (fin_bl I q (congrArg not dec_byt))
    | _ => exact absurd (show false = true from hs) Bool.false_ne_true
  | _ => cases y <;> exact absurd (show false = true from hs) Bool.false_ne_true

theorem op_lt : OpR X (compareOp .Lt) (rI0 fun i j => .bl (decide (i < j))) := opB0 fun _ _ _ _ _ _ _ q => lt_int q
theorem op_gt : OpR X (compareOp .Gt) (rI0 fun i j => .bl (decide (j < i))) := opB0 fun _ _ _ _ _ _ _ q => gt_int q
theorem op_ge : OpR X (compareOp .GtE) (rI0 fun i j => .bl (decide (j ≤ i))) := opB0 fun _ _ _ _ _ _ _ q => ge_int q




theorem nomark (b : Expr) {op : CmpOp} (h : op ≠ .In := by decide) (h2 : op ≠ .NotIn := by decide) : behindInMarks op b = false := by
  have e1 : (op == CmpOp.In) = false := by cases op <;> first | rfl | exact absurd rfl h
  have e2 : (op == CmpOp.NotIn) = false := by cases op <;> first | rfl | exact absurd rfl h2
  cases b <;> simp [behindInMarks, e1, e2]
/-- a comparison as a value; hm: nomark b, or (for in, not in) by with_unfolding_all rfl -/
theorem pe_cmpR {op : CmpOp} {r : R2} (ho : OpR X (compareOp op) r) (ha : PE X a ta) (hb : PE X b tb) (hm : behindInMarks op b = false) : PE X (.Compare a [op] [b] pos) (tOp r ta tb) := by
  intro pins s σ H Q I h
  exact wpAny_Compare1 (binT ha hb I h fun v u s2 x y H2 I2 rx ry q => ho pins s2 σ H2 x y v u Q I2 rx ry q) hm
/-- a reading of a value as a test -/
def tTest (t : TE) : TT := fun σ H Q => t σ H fun x H' => ∃ k, x = .bl k ∧ Q k H'
theorem pt_cmpR {op : CmpOp} {r : R2} (ho : OpR X (compareOp op) r) (ha : PE X a ta) (hb : PE X b tb) (hm : behindInMarks op b = false) : PT X (.Compare a [op] [b] pos) (tTest (tOp r ta tb)) := by
  intro pins s σ H Q I h
  refine wpAny_isTrue_Compare1 (thn (ha pins s σ H _ I h) fun v s1 ⟨x, H1, I1, r1, q1⟩ => thn (hb pins s1 σ H1 _ I1 q1) fun u s2 ⟨y, H2, I2, r2, q2⟩ =>
    thn (ho pins s2 σ H2 x y v u _ I2 r1 r2 q2) fun c s3 ⟨z, H3, I3, r3, k, e, q3⟩ => ?_) hm
  subst e
  cases r3
  exact wpAny_truthy_bool ⟨H3, I3, q3⟩

/-! ### truth -/
theorem line63 : (sizeLine : Nat) < 2 ^ 63 := by rw [sizeLine_eq]; decide

/-! ### strs and bytes -/


/-! ### scalar builtins, by CallR -/
theorem vals1 {x : V} {us : List Value} (r : Vals [x] us) : ∃ u, us = [u] ∧ RelV x u := by
  cases r with
  | cons r1 r2 => cases r2; exact ⟨_, rfl, r1⟩
end
end L2

namespace L2
open PySem PySem.Spec PyProof.Rows

/-! ### an instance, its attributes a map -/
structure ObjM (h : Heap) (x dx C : Addr) (mA : Str → Option Value) : Prop where
  obj : h.get? x = some (PySem.W.instObj C dx)
  ns : h.Ns1 dx mA
  ne : dx ≠ x

theorem lookIn_ns {h : Heap} {dx : Addr} {mA : Str → Option Value} (n : h.Ns1 dx mA) : ∃ od, h.get? dx = some od ∧ ∀ name, PySem.W.lookIn name od = some (mA name) := by
  obtain ⟨o, es, ep, ho, hd, hk, _, hm⟩ := n
  refine ⟨o, ho, fun name => ?_⟩
  have e := hm name
  unfold nsFind findBy at e
  rw [← Array.find?_toList] at e
  unfold PySem.W.lookIn
  rw [hd]
  dsimp only
  split
  · rename_i y q
    rw [q] at e
    exact congrArg some e
  · rename_i q
    rw [q] at e
    have a : es.toList.any (·.refKey) = false := by
      rw [List.any_eq_false]
      intro y hy
      obtain ⟨z, t, hkey⟩ := hk y (Array.mem_toList_iff.mp hy)
      simp [DictEntry.refKey, hkey]
    have a' : ¬ es.toList.any (·.refKey) = true := by rw [a]; exact Bool.false_ne_true
    rw [if_neg a']
    exact congrArg some e

theorem ObjM.look {h : Heap} {x dx C : Addr} {mA : Str → Option Value} (I : ObjM h x dx C mA) : ∃ od, PySem.W.InstAt h x (PySem.W.instObj C dx) C (some od) ∧ ∀ name, PySem.W.lookIn name od = some (mA name) :=
  let ⟨od, ho, hl⟩ := lookIn_ns I.ns
  ⟨od, ⟨I.obj, rfl, rfl, ho⟩, hl⟩

section
variable {prog : Program} {w : World} {A : Around} {E : Value → Shared → Prop} {s : Shared} {K : PySem.W.Frag} {x dx C f : Addr} {mA : Str → Option Value} {name : Str} {v : Value}

theorem get_map {expr : Bool} {Q : Value → Shared → Prop} (X : K.In s.heap) (I : ObjM s.heap x dx C mA) (hg : PySem.W.plainGet K C name = true) (hh : PySem.W.hasDictIn K C = true)
    (ha : PySem.W.findIn K (.ref C) name = some none) (hv : mA name = some v) (hv' : PySem.W.handedIn v = true) (h : Q v { s with toks := s.toks + 1 }) :
    wpAny (model prog w) A (getAttr (.ref x) name expr) Q E s := by
  obtain ⟨od, J, hl⟩ := I.look
  exact PySem.W.get_value X J (PySem.W.plainGet_of hg).1 (PySem.W.findObj_own hh ha rfl (by rw [hl, hv])) hv' h


theorem get_meth {pl : Sem Bool} {Q : Value × List Value → Shared → Prop} (X : K.In s.heap) (I : ObjM s.heap x dx C mA) (hg : PySem.W.plainGet K C name = true)
    (hf : PySem.W.findIn K (.ref C) name = some (some (.ref f))) (ht : PySem.W.isFn K (.ref f) = true) (hv : mA name = none) (h : Q (.ref f, [.ref x]) s) :
    wpAny (model prog w) A (getMethod (.ref x) name pl) Q E s := by
  obtain ⟨od, J, hl⟩ := I.look
  exact PySem.W.method_fn X J (PySem.W.plainGet_of hg).1 (PySem.W.plainGet_of hg).2 hf (beq_iff_eq.mp ht) (by show (PySem.W.lookIn name od).map (·.isSome) = some false; rw [hl, hv]; rfl) h

theorem set_map {ns : List Str} {Q : Unit → Shared → Prop} (X : K.In s.heap) (I : ObjM s.heap x dx C mA)
    (hs : PySem.W.findIn K (.ref C) "__setattr__" = some (some (.builtin "object.__setattr__"))) (hp : PySem.W.plainOver K C = true) (ht : PySem.W.takerIn K C name = some none) (hh : PySem.W.hasDictIn K C = true)
    (hw : PySem.Within mA ns) (hsz : ns.length ≤ sizeLine)
    (h : ∀ h', ObjM h' x dx C (fun y => if y = name then some v else mA y) → Heap.SameBut dx s.heap h' → Q () { s with heap := h', toks := s.toks + 2 }) :
    wpAny (model prog w) A (setAttr (.ref x) name v) Q E s := by
  obtain ⟨od, J, hl⟩ := I.look
  refine PySem.W.set_plain X J hs (PySem.W.osa_open (s := { s with toks := s.toks + 1 }) (r := none) X J hp ht fun b => ?_)
  obtain ⟨cd, hc, hd'⟩ := PySem.W.any_some hh
  have hx : s.heap.get? x = some ⟨.ref C, some dx, .plain, #[]⟩ := I.obj
  refine wpAny_bind (wpAny_pure (wpAny_bind (wpAny_bind (wpAny_loadPart hx (wpAny_bind (PySem.W.Looks.here (s := { s with toks := s.toks + 1 }) (PySem.W.looks_clsIn X hc) ?_))))))
  rw [hd']
  refine wpAny_pure (a := some dx) (wpAny_bind (wpAny_pure (wpAny_bind ?_)))
  refine wpAny_nsSet1 (s := { s with toks := s.toks + 1 }) I.ns fun h' hn2 hs2 => ?_
  obtain ⟨oD, esD, epD, hoD, hdD, hcD⟩ := hn2.count (PySem.Within.cons name v hw)
  refine wpAny_bind (wpAny_lookBehind hoD (by rw [hdD]; exact pastItsLine_dict (Nat.le_trans hcD (by rw [List.length_cons]; omega))) ?_)
  exact wpAny_pure (h _ ⟨(hs2.2 _ (Ne.symm I.ne)).trans I.obj, hn2, I.ne⟩ hs2)

/-- C(..): the dict at the heap's end, the instance behind it; then its __init__ -/
theorem make_map {R : Result → Shared → Prop} {vs : List Value} {kw : List (Str × Value)} (X : K.In s.heap) (hm : PySem.W.makesIn K C = true)
    (hi : PySem.W.findIn K (.ref C) "__init__" = some (some (.ref f))) (hf : PySem.W.typeIn K (.ref f) = some (.type "function"))
    (h : codeAny (model prog w) (A.under (.builtin "type.__call__" ⟨.ref C :: vs, kw⟩)) (.call (.ref f) ⟨.ref (s.heap.objs.size + 1) :: vs, kw⟩) (PySem.W.InitBack (s.heap.objs.size + 1) R)
      { s with heap := (s.heap.push PySem.W.emptyDict).push (PySem.W.instObj C s.heap.objs.size) }) :
    codeAny (model prog w) A (.call (.ref C) ⟨vs, kw⟩) R s := by
  obtain ⟨hh, g, d, t, os⟩ := s
  exact PySem.W.make_core (PySem.W.makes_of X hm) (PySem.W.looks_findIn X hi) (fun self => PySem.W.bind_fn X self hf) (.inl rfl) h
end

/-! ### the attributes as a list of pairs -/
def putF (f : Str) (v : V) : List (Str × V) → List (Str × V)
  | [] => [(f, v)]
  | (g, x) :: r => if g = f then (g, v) :: r else (g, x) :: putF f v r
theorem lookup_putF (f g : Str) (v : V) : ∀ fs : List (Str × V), (putF f v fs).lookup g = if g = f then some v else fs.lookup g
  | [] => by
    show List.lookup g [(f, v)] = _
    by_cases h : g = f
    · have hb : (g == f) = true := beq_iff_eq.mpr h
      simp only [List.lookup, hb, if_pos h]
    · have hb : (g == f) = false := beq_eq_false_iff_ne.mpr h
      simp only [List.lookup, hb, if_neg h]
  | (k, x) :: r => by
    have ih := lookup_putF f g v r
    rw [show putF f v ((k, x) :: r) = (if k = f then (k, v) :: r else (k, x) :: putF f v r) from rfl]
    by_cases hk : k = f
    · rw [if_pos hk]
      by_cases h : g = k
      · have hb : (g == k) = true := beq_iff_eq.mpr h
        simp only [List.lookup, hb, if_pos (h.trans hk)]
      · have hb : (g == k) = false := beq_eq_false_iff_ne.mpr h
        simp only [List.lookup, hb, if_neg (fun e : g = f => h (e.trans hk.symm))]
    · rw [if_neg hk]
      by_cases h : g = k
      · have hb : (g == k) = true := beq_iff_eq.mpr h
        simp only [List.lookup, hb, if_neg (fun e : g = f => hk (h.symm.trans e))]
      · have hb : (g == k) = false := beq_eq_false_iff_ne.mpr h
        simp only [List.lookup, hb]
        exact ih
theorem keys_putF (f : Str) (v : V) : ∀ fs : List (Str × V), f ∈ (putF f v fs).map (·.1) ∧ ∀ g, g ∈ fs.map (·.1) → g ∈ (putF f v fs).map (·.1)
  | [] => ⟨by simp [putF], fun g h => by simp at h⟩
  | (k, x) :: r => by
    obtain ⟨i1, i2⟩ := keys_putF f v r
    rw [show putF f v ((k, x) :: r) = (if k = f then (k, v) :: r else (k, x) :: putF f v r) from rfl]
    by_cases hk : k = f
    · rw [if_pos hk]
      subst hk
      exact ⟨by simp, fun g h => by simpa using h⟩
    · rw [if_neg hk]
      refine ⟨?_, fun g h => ?_⟩
      · rw [List.map_cons]
        exact List.mem_cons_of_mem _ i1
      · rw [List.map_cons] at h ⊢
        rcases List.mem_cons.mp h with e | e
        · exact List.mem_cons.mpr (.inl e)
        · exact List.mem_cons_of_mem _ (i2 g e)
theorem length_putF (f : Str) (v : V) : ∀ fs : List (Str × V), (putF f v fs).length ≤ fs.length + 1
  | [] => by simp [putF]
  | (k, x) :: r => by
    have ih := length_putF f v r
    rw [show putF f v ((k, x) :: r) = (if k = f then (k, v) :: r else (k, x) :: putF f v r) from rfl]
    by_cases hk : k = f
    · rw [if_pos hk, List.length_cons, List.length_cons]; omega
    · rw [if_neg hk, List.length_cons, List.length_cons]; omega

theorem RelO.some_of {v : V} {o : Option Value} (r : RelO (some v) o) : ∃ u, o = some u ∧ RelV v u := by
  cases o with
  | none => exact (show False from r).elim
  | some u => exact ⟨u, rfl, r⟩
theorem RelO.none_of {o : Option Value} (r : RelO none o) : o = none := by
  cases o with
  | none => rfl
  | some u => exact (show False from r).elim
theorem handed_of {v : V} {u : Value} (r : RelV v u) : PySem.W.handedIn u = true := by
  cases v with
  | non => cases (show u = Value.none from r); rfl
  | bl b => cases (show u = Value.bool b from r); rfl
  | int i => obtain ⟨t, e⟩ := (show ∃ t, u = Value.int i t from r); cases e; rfl
  | str x => obtain ⟨t, e⟩ := (show ∃ t, u = Value.str x t from r); cases e; rfl
  | byt b => obtain ⟨t, e⟩ := (show ∃ t, u = Value.bytes b t from r); cases e; rfl
  | flt b => obtain ⟨t, e⟩ := (show ∃ t, u = Value.float b t from r); cases e; rfl
  | ref a => cases (show u = Value.ref a from r); rfl
  | ty n => cases (show u = Value.type n from r); rfl

section
variable {P : Program} {w : World} {H H' : Hp} {h h' : Heap} {a C dx : Addr} {fs fs' : List (Str × V)}
theorem ins_get (hok : HOk P w H h) (e : H a = some (.ins C dx fs)) : ∃ mA, ObjM h a dx C mA ∧ (∀ f, RelO (fs.lookup f) (mA f)) ∧ PySem.Within mA (fs.map (·.1)) ∧ fs.length ≤ 1000 ∧ H dx = some (.own a) := by
  obtain ⟨d, z, ne, ob, mA, n, r, q⟩ := (show ObjOk P w H h a (.ins C dx fs) from hok a _ e)
  exact ⟨mA, ⟨ob, n, ne⟩, r, q, z, d⟩
end

/-! ### what of the text a class must have -/
structure Cls (K : PySem.W.Frag) (C : Addr) : Prop where
  pg : PySem.W.plainGet K C Str.empty = true
  hd : PySem.W.hasDictIn K C = true
  po : PySem.W.plainOver K C = true
  sa : PySem.W.findIn K (.ref C) "__setattr__" = some (some (.builtin "object.__setattr__"))
theorem Cls.get {K : PySem.W.Frag} {C : Addr} (c : Cls K C) (f : Str) : PySem.W.plainGet K C f = true := c.pg
/-- no class of it has the name -/
def NoAttr (K : PySem.W.Frag) (C : Addr) (f : Str) : Prop := PySem.W.findIn K (.ref C) f = some none
theorem NoAttr.taker {K : PySem.W.Frag} {C : Addr} {f : Str} (n : NoAttr K C f) : PySem.W.takerIn K C f = some none := by
  unfold PySem.W.takerIn
  rw [show PySem.W.findIn K (.ref C) f = some none from n]
  rfl
/-- a method: a plain def of the class or of one above it -/
structure Meth (K : PySem.W.Frag) (C : Addr) (m : Str) (f : Addr) : Prop where
  at_ : PySem.W.findIn K (.ref C) m = some (some (.ref f))
  fn : PySem.W.isFn K (.ref f) = true
  kp : PySem.W.keepIn K (.ref f) = true

section
variable {X : Cx} {pins : List (Addr × Obj)} {σ : St} {H : Hp} {s : Shared} {a C dx : Addr} {fs : List (Str × V)} {f : Str} {v : V} {A : Around} {E : Value → Shared → Prop}

theorem getattr_ok {b : Bool} {Q : Value → Shared → Prop} (I : Inv X pins σ H s) (e : H a = some (.ins C dx fs)) (c : Cls X.K C) (n : NoAttr X.K C f) (l : fs.lookup f = some v)
    (h : ∀ u s', Inv X pins σ H s' → RelV v u → Q u s') : wpAny (model X.prog X.w) A (getAttr (.ref a) f b) Q E s := by
  obtain ⟨mA, O, r, _, _, _⟩ := ins_get I.hok e
  obtain ⟨u, hu, ru⟩ := RelO.some_of (v := v) (o := mA f) (by rw [← l]; exact r f)
  exact get_map I.kIn O (c.get f) c.hd n hu (handed_of ru) (h u _ (I.tok _) ru)


theorem getmeth_ok {m : Str} {g : Addr} {pl : Sem Bool} {Q : Value × List Value → Shared → Prop} (I : Inv X pins σ H s) (e : H a = some (.ins C dx fs)) (c : Cls X.K C) (k : Meth X.K C m g) (l : fs.lookup m = none)
    (h : Q (.ref g, [.ref a]) s) : wpAny (model X.prog X.w) A (getMethod (.ref a) m pl) Q E s := by
  obtain ⟨mA, O, r, _, _, _⟩ := ins_get I.hok e
  have hn : mA m = none := RelO.none_of (by rw [← l]; exact r m)
  exact get_meth I.kIn O (c.get m) k.at_ k.fn hn h

theorem setattr_ok {y : V} {u : Value} {Q : Unit → Shared → Prop} (I : Inv X pins σ H s) (e : H a = some (.ins C dx fs)) (c : Cls X.K C) (n : NoAttr X.K C f) (hl : fs.length < 1000) (ry : RelV y u)
    (h : ∀ s', Inv X pins σ (upd H a (.ins C dx (putF f y fs))) s' → Q () s') : wpAny (model X.prog X.w) A (setAttr (.ref a) f u) Q E s := by
  obtain ⟨mA, O, r, wi, _, ho⟩ := ins_get I.hok e
  have hz : (fs.map (·.1)).length ≤ sizeLine := by rw [List.length_map, sizeLine_eq]; omega
  refine set_map I.kIn O c.sa c.po n.taker c.hd wi hz fun h' O' sb => h _ ?_
  have hd : ∃ o, h'.get? dx = some o := let ⟨o, _, _, e', _⟩ := O'.ns; ⟨o, e'⟩
  refine I.write (x := a) (e := dx) (by rw [e]; exact True.intro) (.inr ho) (fun b q hb z => (sb.2 b hb).trans z) hd ?_
  refine ⟨by rw [upd_ne O.ne]; exact ho, ?_, O.ne, O'.obj, _, O'.ns, fun g => ?_, fun g hg => ?_⟩
  · have := length_putF f y fs; omega
  · show RelO ((putF f y fs).lookup g) (if g = f then some u else mA g)
    rw [lookup_putF]
    by_cases q : g = f
    · rw [if_pos q, if_pos q]; exact ry
    · rw [if_neg q, if_neg q]; exact r g
  · by_cases q : g = f
    · rw [q]; exact (keys_putF f y fs).1
    · refine (keys_putF f y fs).2 g (wi g fun z => hg ?_)
      show (if g = f then some u else mA g) = none
      rw [if_neg q]; exact z

/-- a new instance, tracked, without attributes -/
theorem Inv.made (I : Inv X pins σ H s) : Inv X pins σ (upd (upd H s.heap.objs.size (.own (s.heap.objs.size + 1))) (s.heap.objs.size + 1) (.ins C s.heap.objs.size []))
    { s with heap := (s.heap.push PySem.W.emptyDict).push (PySem.W.instObj C s.heap.objs.size) } := by
  have e1 : (s.heap.push PySem.W.emptyDict).get? s.heap.objs.size = some PySem.W.emptyDict := Heap.get?_push_size s.heap rfl
  have e2 : ((s.heap.push PySem.W.emptyDict).push (PySem.W.instObj C s.heap.objs.size)).get? (s.heap.objs.size + 1) = some (PySem.W.instObj C s.heap.objs.size) := by
    have := Heap.get?_push_size (s.heap.push PySem.W.emptyDict) (o := PySem.W.instObj C s.heap.objs.size) rfl
    rwa [Heap.size_push] at this
  have e3 : (s.heap.push PySem.W.emptyDict).Ns s.heap.objs.size (fun _ => none) := ⟨PySem.W.emptyDict, #[], _, e1, rfl, (fun e he => absurd he (by simp)), fun _ => rfl⟩
  have I1 := I.laid (a := s.heap.objs.size) (o := .own (s.heap.objs.size + 1)) (h' := s.heap.push PySem.W.emptyDict) (t' := s.toks) (fun b u q => Heap.get?_push_of_some _ q) (Nat.le_refl _) ⟨_, e1⟩
  refine I1.laid (a := s.heap.objs.size + 1) (o := .ins C s.heap.objs.size []) (t' := s.toks) (fun b u q => Heap.get?_push_of_some _ q) (Nat.le_of_eq (Heap.size_push _ _)) ?_
  have ne : s.heap.objs.size ≠ s.heap.objs.size + 1 := Nat.ne_of_lt (Nat.lt_succ_self _)
  refine ⟨by rw [upd_ne ne, upd_same], Nat.zero_le _, ne, e2, fun _ => none, (Heap.Ns1.of_empty e3).at fun o q => Heap.get?_push_of_some _ q, fun _ => True.intro, fun y hy => absurd rfl hy⟩

/-- e.f where nothing but the object is asked: through attributeBase (super) and the last hold -/
theorem attr_of {prog : Program} {w : World} {env : Env} {e : Expr} {f : Str} {pos : Pos} {s : Shared} {Q : Value → Shared → Prop} (hb : attributeBase e f env (eval e env) = eval e env)
    (h : wpAny (model prog w) A (eval e env) (fun o s₁ => wpAny (model prog w) A (getAttr o f true) Q E s₁) E s) : wpAny (model prog w) A (eval (.Attribute e f pos) env) Q E s :=
  Attribute_any_ h (by rw [arm_eval_Attribute, hb])
end

/-! ### readings and rules -/
/-- e.f, an attribute of the instance -/
def tFld (K : PySem.W.Frag) (ta : TE) (f : Str) : TE := fun σ H Q => ta σ H fun x H1 => ∃ a C dx fs v, x = .ref a ∧ H1 a = some (.ins C dx fs) ∧ Cls K C ∧ NoAttr K C f ∧ fs.lookup f = some v ∧ Q v H1
/-- e.f = value -/
def sFld (K : PySem.W.Frag) (ta tv : TE) (f : Str) : TS := fun D σ H => tv σ H fun y H1 => ta σ H1 fun x H2 => ∃ a C dx fs, x = .ref a ∧ H2 a = some (.ins C dx fs) ∧ Cls K C ∧ NoAttr K C f ∧ fs.length < 1000 ∧
  D.nx σ (upd H2 a (.ins C dx (putF f y fs)))
/-- an augmented operator on two values -/
def InOp (X : Cx) (op : Operator) (rd : V → V → Hp → VK → Prop) : Prop :=
  ∀ (pins : List (Addr × Obj)) (s : Shared) (σ : St) (H : Hp) (x y : V) (u v : Value) (Q : VK), Inv X pins σ H s → RelV x u → RelV y v → rd x y H Q → wpAny (model X.prog X.w) X.A (inplaceOp op u v) (EP X pins σ Q) X.xe s
/-- e.f op= value -/
def sFldAug (K : PySem.W.Frag) (ta tv : TE) (rd : V → V → Hp → VK → Prop) (f : Str) : TS := fun D σ H => ta σ H fun x H1 => ∃ a C dx fs v, x = .ref a ∧ H1 a = some (.ins C dx fs) ∧ Cls K C ∧ NoAttr K C f ∧ fs.lookup f = some v ∧
  tv σ H1 fun y H2 => rd v y H2 fun z H3 => ∃ dx' fs', H3 a = some (.ins C dx' fs') ∧ fs'.length < 1000 ∧ D.nx σ (upd H3 a (.ins C dx' (putF f z fs')))

section
variable {X : Cx} {o e value : Expr} {f : Str} {pos pos' tpos : Pos} {ta tv : TE}
theorem pe_fld (he : PE X e ta) (hb : attributeBase e f X.env (eval e X.env) = eval e X.env) : PE X (.Attribute e f pos) (tFld X.K ta f) := by
  intro pins s σ H Q I h
  refine attr_of hb (thn (he pins s σ H _ I h) fun u s1 ⟨x, H1, I1, rx, a, C, dx, fs, v, ex, ea, c, n, l, q⟩ => ?_)
  subst ex
  obtain rfl : u = Value.ref a := rx
  exact getattr_ok I1 ea c n l fun u' s2 I2 ru => ⟨v, H1, I2, ru, q⟩
theorem ps_fld (ha : PE X o ta) (hv : PE X value tv) (hs : swapsWith value (some (.Attribute o f pos')) pos.line X.env = pure false) : PS X (.Assign [.Attribute o f pos'] value pos) (sFld X.K ta tv f) := by
  intro pins s σ H D I h
  refine plainObj_wpAny_Assign_Attribute (thn (hv pins s σ H _ I h) fun u s1 ⟨y, H1, I1, ry, q⟩ => thn (ha pins s1 σ H1 _ I1 q) fun ov s2 ⟨x, H2, I2, rx, a, C, dx, fs, ex, ea, c, n, l, q2⟩ => ?_) hs
  subst ex
  obtain rfl : ov = Value.ref a := rx
  exact setattr_ok I2 ea c n l ry fun s3 I3 => ⟨σ, _, I3, q2⟩
theorem ps_fldaug {op : Operator} {rd : V → V → Hp → VK → Prop} (ha : PE X o ta) (hv : PE X value tv) (hop : InOp X op rd) : PS X (.AugAssign (.Attribute o f tpos) op value pos) (sFldAug X.K ta tv rd f) := by
  intro pins s σ H D I h
  refine wpAny_AugAssign_AttributeAny (thn (ha pins s σ H _ I h) fun ov s1 ⟨x, H1, I1, rx, a, C, dx, fs, v, ex, ea, c, n, l, q⟩ => ?_)
  subst ex
  obtain rfl : ov = Value.ref a := rx
  refine getattr_ok I1 ea c n l fun u s2 I2 ru => thn (hv pins s2 σ H1 _ I2 q) fun w3 s3 ⟨y, H2, I3, ry, q3⟩ => thn (hop pins s3 σ H2 v y u w3 _ I3 ru ry q3) fun w4 s4 ⟨z, H3, I4, rz, dx', fs', ea', l', q4⟩ => ?_
  exact setattr_ok I4 ea' c n l' rz fun s5 I5 => ⟨σ, _, I5, q4⟩
def rAdd : V → V → Hp → VK → Prop := fun x y H Q => ∃ i j, x = .int i ∧ y = .int j ∧ Q (.int (i + j)) H
theorem in_add : InOp X .Add rAdd := by
  rintro pins s σ H x y u v Q I rx ry ⟨i, j, rfl, rfl, q⟩
  obtain ⟨t, rfl⟩ := (show ∃ t, u = Value.int i t from rx)
  obtain ⟨t', rfl⟩ := (show ∃ t', v = Value.int j t' from ry)
  exact PyProof.Rows.iadd_int ⟨.int (i + j), H, I.tok _, ⟨_, rfl⟩, q⟩

/-- what is between an instance and its method: the tree of a method call -/
theorem methcall_of {pl : Sem Bool} {m : Str} {apos : Pos} {args : List Expr} {pins : List (Addr × Obj)} {s : Shared} {σ : St} {H : Hp} {Q : Value → Shared → Prop} {te : TE} (he : PE X e te) (I : Inv X pins σ H s)
    (h : te σ H fun x H1 => ∃ a C dx fs g, x = .ref a ∧ H1 a = some (.ins C dx fs) ∧ Cls X.K C ∧ Meth X.K C m g ∧ fs.lookup m = none ∧
      ∀ s1, Inv X pins σ H1 s1 → wpAny (model X.prog X.w) X.A (callWith pos (.ref g) [.ref a] (backTo pos (starEach args X.env)) (backToKw pos (keywordEach [] X.env))) Q X.xe s1)
    (ht : eval (.Call (.Attribute e m apos) args [] pos) X.env = (do
      let ov ← eval e X.env
      standAt apos.atName
      let (f, first) ← holding [ov] (getMethod ov m pl)
      callWith pos f first (backTo pos (starEach args X.env)) (backToKw pos (keywordEach [] X.env)))) :
    wpAny (model X.prog X.w) X.A (eval (.Call (.Attribute e m apos) args [] pos) X.env) Q X.xe s := by
  refine PySem.W.methodCall_KW (pl := pl) (thn (he pins s σ H _ I h) fun u s1 ⟨x, H1, I1, rx, a, C, dx, fs, g, ex, ea, c, k, l, q⟩ => ?_) ht
  subst ex
  obtain rfl : u = Value.ref a := rx
  exact getmeth_ok I1 ea c k l (q s1 I1)
end

/-! ### isinstance -/
section
variable {X : Cx} {pins : List (Addr × Obj)} {σ : St} {H : Hp} {s : Shared} {A : Around} {E : Value → Shared → Prop} {Q : Value → Shared → Prop} {c : Value} {b : Bool}
end
end L2

namespace L2
open PySem PySem.Spec PyProof.Rows

/-! ### room -/
structure Room (k : Nat) (A : Around) : Prop where
  hd : A.handled = none
  dp : A.depth + 3 * k + 5 < recursionLimit
  un : A.units + 16 * k + 200 < cLine
theorem Room.mono {j k : Nat} {A : Around} (r : Room k A) (h : j ≤ k) : Room j A := ⟨r.hd, by have := r.dp; omega, by have := r.un; omega⟩
theorem Room.deeper {k : Nat} {A : Around} (r : Room (k + 1) A) (env : Env) : Room k (A.deeper env) :=
  ⟨r.hd, by have := r.dp; show A.depth + 1 + 3 * k + 5 < _; omega, by have := r.un; show A.units + 3 + 16 * k + 200 < _; omega⟩
theorem make_depth {A : Around} {C : Addr} {us : List Value} {kw : List (Str × Value)} : (A.under (.builtin "type.__call__" ⟨.ref C :: us, kw⟩)).depth = A.depth + 1 := by
  first | rfl | simp [Around.under, Code.weight, Code.isCreation, Code.isGuard, Code.isCaller, Code.frames, Code.isFrame, guardIds]
theorem make_units {A : Around} {C : Addr} {us : List Value} {kw : List (Str × Value)} : (A.under (.builtin "type.__call__" ⟨.ref C :: us, kw⟩)).units = A.units + 1 := by
  first | rfl | simp [Around.under, Code.cUnits, Code.frames, Code.isFrame]
theorem Room.make {k : Nat} {A : Around} (r : Room (k + 1) A) (C : Addr) (us : List Value) (kw : List (Str × Value)) : Room k (A.under (.builtin "type.__call__" ⟨.ref C :: us, kw⟩)) :=
  ⟨r.hd, by have := r.dp; rw [make_depth]; omega, by have := r.un; rw [make_units]; omega⟩
theorem Room.depth {k : Nat} {A : Around} (r : Room k A) : A.depth < recursionLimit := by have := r.dp; omega
theorem Room.units {k : Nat} {A : Around} (r : Room k A) : A.units + 64 < cLine := by have := r.un; omega

/-! ### argument lists and displays -/
def tNil : TA := fun _ H Q => Q [] H
def tCons (ta : TE) (tr : TA) : TA := fun σ H Q => ta σ H fun x H1 => tr σ H1 fun xs H2 => Q (x :: xs) H2
section
variable {X : Cx} {e : Expr} {es : List Expr} {te : TE} {t : TA} {pos : Pos}
theorem pa_nil : PA X [] tNil := fun _ _ _ _ H Q I h => Calls.spliced_nil ⟨[], H, I, .nil, h⟩
theorem pa_cons (ha : PE X e te) (hr : PA X es t) (hs : starEach (e :: es) X.env = (false, eval e X.env) :: starEach es X.env := by rfl) : PA X (e :: es) (tCons te t) := by
  intro pos pins s σ H Q I h
  rw [hs]
  show wpAny _ _ (spliced ((false, eval e X.env) :: backTo pos (starEach es X.env))) _ _ s
  refine Calls.spliced_cons (thn (ha pins s σ H _ I h) fun u s1 ⟨x, H1, I1, r1, q1⟩ => ?_)
  exact thn (hr pos pins s1 σ H1 _ I1 q1) fun us s2 ⟨xs, H2, I2, r2, q2⟩ => ⟨x :: xs, H2, I2, .cons r1 r2, q2⟩

/-- a tuple, a list of written items -/
def tTup (t : TA) : TE := fun σ H Q => t σ H fun xs H1 => xs.length ≤ sizeLine ∧ ∀ p, H1 p = none → Q (.ref p) (upd H1 p (.tup xs))
def tLst (t : TA) : TE := fun σ H Q => t σ H fun xs H1 => xs.length ≤ sizeLine ∧ ∀ p, H1 p = none → Q (.ref p) (upd H1 p (.lst xs))
theorem pe_tup {x1} (h : PA X es t) : PE X (.Tuple es x1 pos) (tTup t) := by
  intro pins s σ H Q I hq
  refine wpAny_Tuple_spliced (thn (h pos pins s σ H _ I hq) fun us s1 ⟨xs, H1, I1, r, z, q⟩ => ⟨by rw [← r.length]; exact z, ?_⟩)
  have hf : H1 s1.heap.objs.size = none := I1.hok.fresh (Nat.le_refl _)
  refine ⟨.ref s1.heap.objs.size, upd H1 s1.heap.objs.size (.tup xs), I1.laid (t' := s1.toks) (fun b u e => Heap.get?_push_of_some _ e) (Nat.le_refl _) ?_, rfl, q _ hf⟩
  exact ⟨z, us, r, ⟨_, Heap.get?_push_size _ rfl, rfl, _, rfl⟩⟩
theorem pe_lst (h : PA X es t) : PE X (.List es pos) (tLst t) := by
  intro pins s σ H Q I hq
  refine wpAny_List_spliced (thn (h pos pins s σ H _ I hq) fun us s1 ⟨xs, H1, I1, r, z, q⟩ => ⟨by rw [← r.length]; exact z, ?_⟩)
  have hf : H1 s1.heap.objs.size = none := I1.hok.fresh (Nat.le_refl _)
  refine ⟨.ref s1.heap.objs.size, upd H1 s1.heap.objs.size (.lst xs), I1.laid (t' := s1.toks) (fun b u e => Heap.get?_push_of_some _ e) (Nat.le_refl _) ?_, rfl, q _ hf⟩
  exact ⟨z, us, 0, r, Heap.get?_push_size _ rfl⟩
end

/-! ### what a def promises -/
/-- a def's promise: the bound arguments in the parameters' order, the heap, the wanted end, the wanted exception -/
abbrev Sp := List V → Hp → VK → XK → Prop
/-- how an exception lies behind a call (file 08 gives it): the callers' frames, abstract heap and state ahead of the call, the wish, the exception, the state -/
abbrev CXT := List Env → Hp → Shared → XK → Value → Shared → Prop

/-- the state at a call -/
structure Env0 (P : Program) (w : World) (K : PySem.W.Frag) (mg : Str → Option Value) (base : Heap) (A : Around) (outer : List Env) (s : Shared) (H : Hp) : Prop where
  frames : A.frames = some outer
  mod : Mod K mg base
  bs : ∀ b o, base.get? b = some o → s.heap.get? b = some o ∧ H b = none
  bsz : base.objs.size ≤ s.heap.objs.size
  funs : s.heap.FunFrames base outer
  frf : ∀ b ∈ frs outer, H b = none
  hok : HOk P w H s.heap
  bare : AllBare s.gens
/-- a call's end -/
def CE (outer : List Env) (P : Program) (w : World) (H : Hp) (s : Shared) (Q : VK) (u : Value) (s' : Shared) : Prop :=
  ∃ v H', s'.os = s.os ∧ AllBare s'.gens ∧ Un (frs outer) [] H H' s.heap s'.heap ∧ HOk P w H' s'.heap ∧ RelV v u ∧ Q v H'
def CR (CX : CXT) (outer : List Env) (P : Program) (w : World) (H : Hp) (s : Shared) (Q : VK) (E : XK) (r : Result) (s' : Shared) : Prop :=
  match r with
  | .ok (.ret u) => CE outer P w H s Q u s'
  | .ok _ => False
  | .error e => CX outer H s E e s'
structure FnOk (P : Program) (w : World) (K : PySem.W.Frag) (mg : Str → Option Value) (base : Heap) (CX : CXT) (k : Nat) (f : Addr) (fd : FuncData) (ps : List Str) (sp : Sp) : Prop where
  len : ∀ vs H Q E, sp vs H Q E → vs.length = ps.length
  run : ∀ (A : Around) (outer : List Env) (s : Shared) (H : Hp) (args : Args) (us : List Value) (vs : List V) (Q : VK) (E : XK), Room k A → Env0 P w K mg base A outer s H → BindsTo s fd args (ps.zip us) → Vals vs us → sp vs H Q E →
    codeAny (model P w) A (.call (.ref f) args) (CR CX outer P w H s Q E) s

theorem Env0.make {P : Program} {w : World} {K : PySem.W.Frag} {mg : Str → Option Value} {base : Heap} {A : Around} {outer : List Env} {s : Shared} {H : Hp} (e : Env0 P w K mg base A outer s H) (C : Addr) (us : List Value) (kw : List (Str × Value)) :
    Env0 P w K mg base (A.under (.builtin "type.__call__" ⟨.ref C :: us, kw⟩)) outer s H := ⟨by first | exact e.frames | (simpa [Around.under, Code.envs, Code.isFrame, pushEnvs] using e.frames), e.mod, e.bs, e.bsz, e.funs, e.frf, e.hok, e.bare⟩

section
variable {X : Cx} {pins : List (Addr × Obj)} {σ : St} {H : Hp} {s s' : Shared}
/-- from a body: what a callee wants -/
theorem Inv.env0 (I : Inv X pins σ H s) : Env0 X.prog X.w X.K X.mg X.base X.A X.stack s H :=
  ⟨I.ok.frames, I.ok.mod, I.bs, Nat.le_trans I.ok.bsz I.sz, I.stack, I.stkFree, I.hok, I.bare⟩
/-- behind a call -/
theorem Inv.after {Q : VK} {u : Value} (I : Inv X pins σ H s) (h : CE X.stack X.prog X.w H s Q u s') : EP X pins σ Q u s' := by
  obtain ⟨v, H', os, bare, un, hok, r, q⟩ := h
  obtain ⟨hh, g, d, t, os'⟩ := s'
  obtain rfl : os' = s.os := os
  exact ⟨v, H', I.call (h' := hh) (g' := g) (d' := d) (t' := t) (ch := []) un hok bare (fun b z => absurd z (by simp)), r, q⟩
end

/-! ### calls -/
/-- f(..): the written arguments, then the defaults dvs; E: what is wanted of an exception -/
def tCall (sp : Sp) (dvs : List V) (E : XK) (t : TA) : TE := fun σ H Q => t σ H fun vs H1 => sp (vs ++ dvs) H1 Q E
/-- o.m(..) of an instance of the class at C -/
def tMeth (C : Addr) (m : Str) (sp : Sp) (dvs : List V) (E : XK) (ta : TE) (t : TA) : TE := fun σ H Q => ta σ H fun x H1 => ∃ a dx fs, x = .ref a ∧ H1 a = some (.ins C dx fs) ∧ fs.lookup m = none ∧
  t σ H1 fun vs H2 => sp (x :: (vs ++ dvs)) H2 Q E
/-- C(..): a new instance and its dict, then __init__ -/
def tMake (C : Addr) (sp : Sp) (dvs : List V) (E : XK) (t : TA) : TE := fun σ H Q => t σ H fun vs H1 => ∀ x dx, H1 x = none → H1 dx = none → dx ≠ x →
  sp (.ref x :: (vs ++ dvs)) (upd (upd H1 dx (.own x)) x (.ins C dx [])) (fun v H2 => v = .non ∧ Q (.ref x) H2) E

/-- how the parameters are bound: us the positional arguments, kw the keywords' values by name, ds the defaults that fill up -/
def Binds (K : PySem.W.Frag) (fd : FuncData) (ps : List Str) (ds : List Value) : Prop :=
  ∀ (s : Shared) (us : List Value), K.In s.heap → (us ++ ds).length = ps.length → BindsTo s fd ⟨us, []⟩ (ps.zip (us ++ ds))
/-- every parameter is given -/
theorem Binds.all {K : PySem.W.Frag} {fd : FuncData} {ps : List Str} (h : ∀ us : List Value, us.length = ps.length → bindArgs fd ⟨us, []⟩ = pure (ps.zip us)) : Binds K fd ps [] := fun s us _ hl => by
  rw [List.append_nil] at hl ⊢
  exact .of_eq (h us hl)

/-- an exception of a callee reaches what this body wants of exceptions -/
def Passes (CX : CXT) (X : Cx) (E : XK) : Prop := ∀ (pins : List (Addr × Obj)) (σ : St) (H : Hp) (s : Shared) (e : Value) (s' : Shared), Inv X pins σ H s → CX X.stack H s E e s' → X.xe e s'

section
variable {X : Cx} {CX : CXT} {k : Nat} {f C : Addr} {fd : FuncData} {ps : List Str} {sp : Sp} {dvs : List V} {ds : List Value} {E : XK} {x m : Str} {p pos apos : Pos} {e o : Expr} {es : List Expr} {ta : TE} {t : TA}

/-- the callee runs -/
theorem run_fn {pins : List (Addr × Obj)} {σ : St} {H : Hp} {s : Shared} {Q : VK} {us : List Value} {vs : List V} (F : FnOk X.prog X.w X.K X.mg X.base CX k f fd ps sp) (hr : Room k X.A) (hb : Binds X.K fd ps ds) (hd : Vals dvs ds) (hx : Passes CX X E)
    (I : Inv X pins σ H s) (r : Vals vs us) (h : sp (vs ++ dvs) H Q E) : wpAny (model X.prog X.w) X.A (call (.ref f) us) (EP X pins σ Q) X.xe s := by
  have r2 : Vals (vs ++ dvs) (us ++ ds) := r.append hd
  have hl : (us ++ ds).length = ps.length := by rw [← r2.length]; exact F.len _ _ _ _ h
  refine wpAny_call (codeAny_mono (F.run X.A X.stack s H ⟨us, []⟩ (us ++ ds) (vs ++ dvs) Q E hr I.env0 (hb s us I.kIn hl) r2 h) fun r s' hq => ?_)
  cases r with
  | error e => exact hx pins σ H s e s' I hq
  | ok fl =>
    cases fl with
    | ret u => exact I.after hq
    | next => exact False.elim hq
    | brk => exact False.elim hq
    | cont => exact False.elim hq

theorem pe_call (F : FnOk X.prog X.w X.K X.mg X.base CX k f fd ps sp) (hr : Room k X.A) (hg : Gl X x) (hm : X.mg x = some (.ref f)) (hk : PySem.W.keepIn X.K (.ref f) = true) (hb : Binds X.K fd ps ds) (hd : Vals dvs ds) (hx : Passes CX X E)
    (ha : PA X (e :: es) t) (hdb : (x == ("__debug__" : Str)) = false := by decide) (he : starEach (e :: es) X.env = (false, eval e X.env) :: starEach es X.env := by rfl) (hpl : (backTo pos (starEach es X.env)).any (·.1) = false := by rfl) :
    PE X (.Call (.Name x p) (e :: es) [] pos) (tCall sp dvs E t) := by
  intro pins s σ H Q I h
  refine wpAny_Call_Name_kw (ld_glob I hg hm ?_ hdb)
  refine PySem.W.callWith_K (h₀ := X.base) I.ok.mod.kin hk (thn (ha pos pins s σ H _ I h) fun us s1 ⟨vs, H1, I1, r, q⟩ => ⟨I1.kIn, ?_⟩) he hpl
  exact run_fn F hr hb hd hx I1 r q

/-- o.m(e, ..) -/
theorem pe_meth {pl : Sem Bool} (he : PE X o ta) (c : Cls X.K C) (hm : Meth X.K C m f) (F : FnOk X.prog X.w X.K X.mg X.base CX k f fd ps sp) (hr : Room k X.A) (hb : Binds X.K fd ps ds) (hd : Vals dvs ds) (hx : Passes CX X E) (ha : PA X (e :: es) t)
    (hst : starEach (e :: es) X.env = (false, eval e X.env) :: starEach es X.env := by rfl) (hpl : (backTo pos (starEach es X.env)).any (·.1) = false := by rfl)
    (ht : eval (.Call (.Attribute o m apos) (e :: es) [] pos) X.env = (do
      let ov ← eval o X.env
      standAt apos.atName
      let (f, first) ← holding [ov] (getMethod ov m pl)
      callWith pos f first (backTo pos (starEach (e :: es) X.env)) (backToKw pos (keywordEach [] X.env))) := by rfl) :
    PE X (.Call (.Attribute o m apos) (e :: es) [] pos) (tMeth C m sp dvs E ta t) := by
  intro pins s σ H Q I h
  refine PySem.W.methodCall_KW (pl := pl) (thn (he pins s σ H _ I h) fun u s1 ⟨x, H1, I1, rx, a, dx, fs, ex, ea, l, q⟩ => ?_) ht
  subst ex
  obtain rfl : u = Value.ref a := rx
  refine getmeth_ok I1 ea c hm l ?_
  refine PySem.W.callWith_K (first := [.ref a]) (h₀ := X.base) I.ok.mod.kin hm.kp (thn (ha pos pins s1 σ H1 _ I1 q) fun us s2 ⟨vs, H2, I2, r, q2⟩ => ⟨I2.kIn, ?_⟩) hst hpl
  exact run_fn (us := .ref a :: us) (vs := .ref a :: vs) F hr hb hd hx I2 (.cons rfl r) q2
/-- o.m() -/
theorem pe_meth0 {pl : Sem Bool} (he : PE X o ta) (c : Cls X.K C) (hm : Meth X.K C m f) (F : FnOk X.prog X.w X.K X.mg X.base CX k f fd ps sp) (hr : Room k X.A) (hb : Binds X.K fd ps ds) (hd : Vals dvs ds) (hx : Passes CX X E)
    (ht : eval (.Call (.Attribute o m apos) [] [] pos) X.env = (do
      let ov ← eval o X.env
      standAt apos.atName
      let (f, first) ← holding [ov] (getMethod ov m pl)
      callWith pos f first (backTo pos (starEach [] X.env)) (backToKw pos (keywordEach [] X.env))) := by rfl) :
    PE X (.Call (.Attribute o m apos) [] [] pos) (tMeth C m sp dvs E ta tNil) := by
  intro pins s σ H Q I h
  refine PySem.W.methodCall_KW (pl := pl) (thn (he pins s σ H _ I h) fun u s1 ⟨x, H1, I1, rx, a, dx, fs, ex, ea, l, q⟩ => ?_) ht
  subst ex
  obtain rfl : u = Value.ref a := rx
  refine getmeth_ok I1 ea c hm l ?_
  exact PySem.W.callWith_K0 (first := [.ref a]) I1.kIn hm.kp (run_fn (us := [.ref a]) (vs := [.ref a]) F hr hb hd hx I1 (.cons rfl .nil) q)

/-- what a class must have to be made -/
structure Mk (K : PySem.W.Frag) (C f : Addr) : Prop where
  makes : PySem.W.makesIn K C = true
  init : PySem.W.findIn K (.ref C) "__init__" = some (some (.ref f))
  fn : PySem.W.isFn K (.ref f) = true
  kp : PySem.W.keepIn K (.ref C) = true

theorem run_make {pins : List (Addr × Obj)} {σ : St} {H : Hp} {s : Shared} {Q : VK} {us : List Value} {vs : List V} (M : Mk X.K C f) (F : FnOk X.prog X.w X.K X.mg X.base CX k f fd ps sp) (hr : Room (k + 1) X.A) (hb : Binds X.K fd ps ds) (hd : Vals dvs ds)
    (hx : Passes CX X E) (I : Inv X pins σ H s) (r : Vals vs us)
    (h : ∀ x dx, H x = none → H dx = none → dx ≠ x → sp (.ref x :: (vs ++ dvs)) (upd (upd H dx (.own x)) x (.ins C dx [])) (fun v H2 => v = .non ∧ Q (.ref x) H2) E) :
    wpAny (model X.prog X.w) X.A (call (.ref C) us) (EP X pins σ Q) X.xe s := by
  have hq := h (s.heap.objs.size + 1) s.heap.objs.size (I.hok.fresh (Nat.le_succ _)) (I.hok.fresh (Nat.le_refl _)) (Nat.ne_of_lt (Nat.lt_succ_self _))
  have I2 := Inv.made (C := C) I
  have r2 : Vals (V.ref (s.heap.objs.size + 1) :: (vs ++ dvs)) (Value.ref (s.heap.objs.size + 1) :: (us ++ ds)) := .cons rfl (r.append hd)
  have hl : (Value.ref (s.heap.objs.size + 1) :: us ++ ds).length = ps.length := by
    have e := r2.length
    rw [F.len _ _ _ _ hq] at e
    exact e.symm
  refine wpAny_call (make_map (f := f) I.kIn M.makes M.init (beq_iff_eq.mp M.fn) (codeAny_mono (F.run _ X.stack _ _ ⟨Value.ref (s.heap.objs.size + 1) :: us, []⟩ (Value.ref (s.heap.objs.size + 1) :: (us ++ ds)) _ _ E (hr.make C us [])
    (I2.env0.make C us []) (hb _ (Value.ref (s.heap.objs.size + 1) :: us) I2.kIn hl) r2 hq) fun r s' hq' => ?_))
  cases r with
  | error e => exact hx pins σ _ _ e s' I2 hq'
  | ok fl =>
    cases fl with
    | ret u =>
      obtain ⟨v, H', I3, rv, ev, q3⟩ := I2.after hq'
      subst ev
      exact ⟨rv, ⟨V.ref (s.heap.objs.size + 1), H', I3, rfl, q3⟩⟩
    | next => exact False.elim hq'
    | brk => exact False.elim hq'
    | cont => exact False.elim hq'
theorem pe_make (M : Mk X.K C f) (F : FnOk X.prog X.w X.K X.mg X.base CX k f fd ps sp) (hr : Room (k + 1) X.A) (hg : Gl X x) (hm : X.mg x = some (.ref C)) (hb : Binds X.K fd ps ds) (hd : Vals dvs ds) (hx : Passes CX X E)
    (ha : PA X (e :: es) t) (hdb : (x == ("__debug__" : Str)) = false := by decide) (he : starEach (e :: es) X.env = (false, eval e X.env) :: starEach es X.env := by rfl) (hpl : (backTo pos (starEach es X.env)).any (·.1) = false := by rfl) :
    PE X (.Call (.Name x p) (e :: es) [] pos) (tMake C sp dvs E t) := by
  intro pins s σ H Q I h
  refine wpAny_Call_Name_kw (ld_glob I hg hm ?_ hdb)
  refine PySem.W.callWith_K (h₀ := X.base) I.ok.mod.kin M.kp (thn (ha pos pins s σ H _ I h) fun us s1 ⟨vs, H1, I1, r, q⟩ => ⟨I1.kIn, ?_⟩) he hpl
  exact run_make M F hr hb hd hx I1 r q
theorem pe_make0 (M : Mk X.K C f) (F : FnOk X.prog X.w X.K X.mg X.base CX k f fd ps sp) (hr : Room (k + 1) X.A) (hg : Gl X x) (hm : X.mg x = some (.ref C)) (hb : Binds X.K fd ps ds) (hd : Vals dvs ds) (hx : Passes CX X E)
    (hdb : (x == ("__debug__" : Str)) = false := by decide) : PE X (.Call (.Name x p) [] [] pos) (tMake C sp dvs E tNil) := by
  intro pins s σ H Q I h
  refine wpAny_Call_Name_kw (ld_glob I hg hm ?_ hdb)
  exact PySem.W.callWith_K0 I.kIn M.kp (run_make (us := []) M F hr hb hd hx I .nil h)
end

/-! ### keywords -/
section
variable {X : Cx} {CX : CXT} {k : Nat} {f C : Addr} {fd : FuncData} {ps ks : List Str} {sp : Sp} {E : XK} {x m : Str} {p pos apos kpos : Pos} {e o : Expr} {es : List Expr} {kws : List Keyword} {te ta : TE} {t tk : TA} {nm : Option Str}

variable {g : List Value → List Value → List Value} {gV : List V → List V → List V}
end

/-! ### a def's body keeps its promise -/
/-- names: the parameters first -/
structure FnScope (N P : List Str) (sc : Scope) : Prop where
  kind : sc.kind = .function
  co : sc.isCoroutine = false
  gen : sc.isGenerator = false
  nd : N.Nodup
  pre : N.take P.length = P
  par : ∀ x ∈ P, sc.names.lookup x = some .local ∨ sc.names.lookup x = some .cell
  nofree : ∀ y ∈ sc.names, y.2 ≠ .free

theorem bindL_out {kindOf : Str → Option NameKind} {x : Str} : ∀ {binds : List (Str × Value)} {m : Str → Option Value}, (∀ v, (x, v) ∉ binds) → bindL kindOf binds m x = m x
  | [], _, _ => rfl
  | (n, v) :: r, m, h => by
    unfold bindL
    rw [bindL_out fun w hw => h w (List.mem_cons_of_mem _ hw)]
    split
    · have : x ≠ n := by rintro rfl; exact h v List.mem_cons_self
      simp [this]
    · rfl
theorem bindC_out {kindOf : Str → Option NameKind} {x : Str} : ∀ {binds : List (Str × Value)} {m : Str → Option Value}, (∀ v, (x, v) ∉ binds) → bindC kindOf binds m x = m x
  | [], _, _ => rfl
  | (n, v) :: r, m, h => by
    unfold bindC
    rw [bindC_out fun w hw => h w (List.mem_cons_of_mem _ hw)]
    split
    · rfl
    · have : x ≠ n := by rintro rfl; exact h v List.mem_cons_self
      simp [this]
theorem bindL_get {kindOf : Str → Option NameKind} {x : Str} {v : Value} : ∀ {P : List Str} {vs : List Value} {i : Nat} {m : Str → Option Value}, P.Nodup → P[i]? = some x → vs[i]? = some v → kindOf x = some .local →
    bindL kindOf (P.zip vs) m x = some v
  | [], _, _, _, _, h, _, _ => by simp at h
  | _ :: _, [], _, _, _, _, h, _ => by simp at h
  | p :: P, w :: vs, 0, m, nd, h1, h2, hk => by
    simp at h1 h2; subst h1; subst h2
    show bindL kindOf ((p, w) :: P.zip vs) m p = _
    unfold bindL
    rw [bindL_out fun v hv => (List.nodup_cons.mp nd).1 (List.of_mem_zip hv).1, if_pos hk]
    simp
  | p :: P, w :: vs, i + 1, m, nd, h1, h2, hk => by
    show bindL kindOf ((p, w) :: P.zip vs) m x = _
    unfold bindL
    exact bindL_get (i := i) (List.nodup_cons.mp nd).2 (by simpa using h1) (by simpa using h2) hk
theorem bindC_get {kindOf : Str → Option NameKind} {x : Str} {v : Value} : ∀ {P : List Str} {vs : List Value} {i : Nat} {m : Str → Option Value}, P.Nodup → P[i]? = some x → vs[i]? = some v → kindOf x ≠ some .local →
    bindC kindOf (P.zip vs) m x = some v
  | [], _, _, _, _, h, _, _ => by simp at h
  | _ :: _, [], _, _, _, _, h, _ => by simp at h
  | p :: P, w :: vs, 0, m, nd, h1, h2, hk => by
    simp at h1 h2; subst h1; subst h2
    show bindC kindOf ((p, w) :: P.zip vs) m p = _
    unfold bindC
    rw [bindC_out fun v hv => (List.nodup_cons.mp nd).1 (List.of_mem_zip hv).1, if_neg hk]
    simp
  | p :: P, w :: vs, i + 1, m, nd, h1, h2, hk => by
    show bindC kindOf ((p, w) :: P.zip vs) m x = _
    unfold bindC
    exact bindC_get (i := i) (List.nodup_cons.mp nd).2 (by simpa using h1) (by simpa using h2) hk

/-- the names' values at the entry -/
def start (N : List Str) (vs : List V) : St := vs.map some ++ List.replicate (N.length - vs.length) none

/-- the context of a def's body, at its entry; an exception leaves the frame, then lies as CX says -/
def cxOf (CX : CXT) (P : Program) (w : World) (K : PySem.W.Frag) (mg : Str → Option Value) (base : Heap) (N : List Str) (qual : Str) (scope : Scope) (f : Addr) (cd : Value) (A : Around) (outer : List Env) (s : Shared) (H : Hp) (E : XK) : Cx where
  prog := P
  w := w
  K := K
  mg := mg
  base := base
  A := A.deeper (envOfC qual scope s.heap.objs.size f cd)
  N := N
  s_0 := s
  H_0 := H
  env := envOfC qual scope s.heap.objs.size f cd
  outer := outer
  stack := envOfC qual scope s.heap.objs.size f cd :: outer
  ex := []
  calm := true
  fn := fun _ => true
  pn := []
  xe := fun e s' => wpAny (model P w) (A.deeper (envOfC qual scope s.heap.objs.size f cd)) (leaving (envOfC qual scope s.heap.objs.size f cd) e) (fun _ s'' => CX outer H s E e s'') (fun e' s'' => CX outer H s E e' s'') s'

theorem cell_has {sc : Scope} {n : Nat} {x : Str} (h : sc.names.lookup x = some .cell) : ∃ c, (cellsFrom n sc.names []).lookup x = some c := by
  have q := PySem.W.cellsFrom_some sc.names n [] (.inl h)
  exact Option.isSome_iff_exists.mp q

theorem inv_start {CX : CXT} {P : Program} {w : World} {K : PySem.W.Frag} {mg : Str → Option Value} {base : Heap} {N ps : List Str} {qual : Str} {scope : Scope} {f : Addr} {cd : Value} {A : Around} {outer : List Env} {s s1 : Shared} {H : Hp} {E : XK} {us : List Value} {vs : List V}
    (S : FnScope N ps scope) (hd : A.handled = none) (e0 : Env0 P w K mg base A outer s H) (hl : vs.length = ps.length) (r : Vals vs us)
    (x : InCallC s s.heap.objs.size (bindL (envOfC qual scope s.heap.objs.size f cd).kindOf (ps.zip us) fun _ => none) (cellsFrom (s.heap.objs.size + 1) scope.names []) (bindC (envOfC qual scope s.heap.objs.size f cd).kindOf (ps.zip us) fun _ => none) s1) :
    Inv (cxOf CX P w K mg base N qual scope f cd A outer s H E) [] (start N vs) H s1 := by
  have hpl : ps.length ≤ N.length := by have := congrArg List.length S.pre; rw [List.length_take] at this; omega
  obtain ⟨h1, tk, rfl, hk⟩ := x.done
  have noA : ∀ b : Addr, b ∉ (cxOf CX P w K mg base N qual scope f cd A outer s H E).ex := fun b z => absurd (show b ∈ ([] : List Addr) from z) (by simp)
  refine ⟨⟨e0.mod, S.kind, rfl, rfl, Nat.le_refl _, fun y z c h1 h2 => ?_, fun y hy => ?_, fun y c _ h => ?_, fun _ => hd, Around.frames_deeper e0.frames, .inr ⟨rfl, rfl⟩, fun b z => absurd z (noA b), e0.bs, e0.bsz, fun b _ _ => noA b, fun b z => absurd z (noA b), e0.funs, e0.frf⟩,
    rfl, e0.bare, Un.kept hk, ⟨_, x.toInCall.ns, fun i y v h1 h2 h3 => ?_⟩, fun y c h => ⟨_, x.cell y c h⟩, e0.hok.fresh (Nat.le_refl _), fun y c h => ?_, fun p hp => absurd (show p ∈ ([] : List (Addr × Obj)) from hp) (by simp), e0.hok.kept hk, ?_⟩
  · exact name_of_addr x.apart (PySem.mem_of_lookup h1) (PySem.mem_of_lookup h2)
  · have hy : scope.names.lookup y = some .cell ∨ scope.names.lookup y = some .free := hy
    rcases hy with hy | hy
    · exact cell_has hy
    · exact absurd rfl (S.nofree _ (PySem.mem_of_lookup hy))
  · exact Nat.le_of_lt (x.above y c (PySem.mem_of_lookup h))
  · have hi : i < vs.length := by
      unfold start at h2
      by_cases hi : i < vs.length
      · exact hi
      · rw [List.getElem?_append_right (by simpa using hi)] at h2
        rw [List.getElem?_replicate] at h2
        split at h2 <;> cases h2
    have ha : vs[i]? = some v := by
      unfold start at h2
      rw [List.getElem?_append_left (by simpa using hi), List.getElem?_map] at h2
      cases e : vs[i]? with
      | none => rw [e] at h2; cases h2
      | some a => rw [e] at h2; cases h2; rfl
    obtain ⟨u, hu, rv⟩ := r.get ha
    have hp : ps[i]? = some y := by
      rw [← S.pre, List.getElem?_take_of_lt (by omega)]; exact h1
    have ndP : ps.Nodup := by rw [← S.pre]; exact S.nd.sublist (List.take_sublist _ _)
    refine ⟨u, rv, ?_⟩
    rcases S.par y (List.mem_of_getElem? hp) with k | k
    · exact .inl ⟨k, bindL_get ndP hp hu k⟩
    · obtain ⟨c, e⟩ := cell_has (n := s.heap.objs.size + 1) k
      refine .inr ⟨.inl k, c, e, ?_⟩
      have q := x.cell y c e
      rw [bindC_get ndP hp hu (by show scope.names.lookup y ≠ _; rw [k]; decide)] at q
      exact q
  · exact e0.hok.fresh (Nat.le_of_lt (x.above y c (PySem.mem_of_lookup h)))
  · unfold start
    show _ = N.length
    rw [List.length_append, List.length_map, List.length_replicate]
    omega

/-- THE RULE: a def (or a method) of the text, by its body. The body's reading t is chosen for each entry; it is run at the parameters' values -/
theorem fn_of {CX : CXT} {P : Program} {w : World} {K : PySem.W.Frag} {mg : Str → Option Value} {base : Heap} {k : Nat} {f : Addr} {name qual : Str} {params : Arguments} {body : List Stmt} {scope : Scope} {dV kV doc pm cdv ct oc : Value} {an od : Option Addr}
    {osl : Array (Option Value)} {N ps : List Str} {sp : Sp} (lk : K.lookup f = some ⟨oc, od, .func (PySem.W.fnOf name qual params body scope dV kV doc pm an cdv ct), osl⟩) (hcd : PySem.W.codeIn K cdv qual = true) (S : FnScope N ps scope)
    (len : ∀ vs H Q E, sp vs H Q E → vs.length = ps.length)
    (hbody : ∀ (A : Around) (outer : List Env) (s : Shared) (H : Hp) (vs : List V) (Q : VK) (E : XK), Room k (A.deeper (envOfC qual scope s.heap.objs.size f cdv)) → sp vs H Q E →
      ∃ t, PSs (cxOf CX P w K mg base N qual scope f cdv A outer s H E) body t ∧ t { nx := fun _ H' => Q .non H', rt := Q } (start N vs) H) :
    FnOk P w K mg base CX (k + 1) f (PySem.W.fnOf name qual params body scope dV kV doc pm an cdv ct) ps sp := by
  refine ⟨len, fun A outer s H args us vs Q E hr e0 hb r hsp => ?_⟩
  have hl := len _ _ _ _ hsp
  have KX : K.In s.heap := e0.mod.kin.keeps fun b o e => (e0.bs b o e).1
  have lim : s.heap.NoLimit := e0.mod.nolimit.keeps fun b o e => (e0.bs b o e).1
  have hkind : ∀ y ∈ ps.zip us, scope.names.lookup y.1 = some .local ∨ (scope.names.lookup y.1 = some .cell ∧ ((cellsFrom (s.heap.objs.size + 1) scope.names []).lookup y.1).isSome = true) := fun ⟨n, v⟩ hy => by
    rcases S.par n (List.of_mem_zip hy).1 with q | q
    · exact .inl q
    · exact .inr ⟨q, PySem.W.cellsFrom_some _ _ _ (.inl q)⟩
  refine codeAny_call_function hr.depth (KX _ _ lk) rfl S.co S.gen rfl (PySem.W.codeRec_of KX hcd) (hb _ _ _ _ ?_)
  refine wpAny_newFunctionEnv_cells S.kind hkind fun env he s1 x => ?_
  subst he
  refine ⟨lim.keeps x.toInCall.keep, codeAny_func ?_⟩
  obtain ⟨t, ht, hq⟩ := hbody A outer s H vs Q E (hr.deeper _) hsp
  have I : Inv (cxOf CX P w K mg base N qual scope f cdv A outer s H E) [] (start N vs) H s1 := inv_start S hr.hd e0 hl r x
  refine wpAny_mono (ht [] s1 (start N vs) H _ I hq) (fun fl s' hs => ?_) fun e s' hs => hs
  have fin : ∀ {σ' : St} {H' : Hp} {v : V} {u : Value}, Inv (cxOf CX P w K mg base N qual scope f cdv A outer s H E) [] σ' H' s' → RelV v u → Q v H' → CE outer P w H s Q u s' :=
    fun {σ' H' v u} J rv q => ⟨v, H', J.os, J.bare, J.base, J.hok, rv, q⟩
  cases fl with
  | ret u =>
    obtain ⟨v, σ', H', J, rv, q⟩ := hs
    exact fin J rv q
  | next =>
    obtain ⟨σ', H', J, q⟩ := hs
    exact fin (v := V.non) (u := Value.none) J rfl q
  | brk =>
    obtain ⟨_, _, _, q⟩ := hs
    exact False.elim q
  | cont =>
    obtain ⟨_, _, _, q⟩ := hs
    exact False.elim q
end L2

namespace L2
open PySem PySem.Spec PyProof.Rows
section
variable {X : Cx} {x : Str} {p pos : Pos} {e : Expr} {es : List Expr} {t : TA} {id T : String} {r : List V → Hp → VK → Prop}

def tCB (r : List V → Hp → VK → Prop) (t : TA) : TE := fun σ H Q => t σ H fun vs H1 => r vs H1 Q
/-- f(e, ..), f a built-in function -/
theorem pe_callB (hc : CallR X (.builtin id) r) (hg : Gl X x) (hm : X.mg x = none) (hv : bootBuiltins x = some (.builtin id)) (ha : PA X (e :: es) t) (hn : x ≠ "__name__" := by decide) (hdb : (x == ("__debug__" : Str)) = false := by decide)
    (he : starEach (e :: es) X.env = (false, eval e X.env) :: starEach es X.env := by rfl) (hpl : (backTo pos (starEach es X.env)).any (·.1) = false := by rfl) : PE X (.Call (.Name x p) (e :: es) [] pos) (tCB r t) := by
  intro pins s σ H Q I h
  refine wpAny_Call_Name_kw (ld_blt I hg hm hv ?_ hn hdb)
  exact PyProof.Rows.callWith_builtin1 (thn (ha pos pins s σ H _ I h) fun us s1 ⟨vs, H1, I1, r1, q1⟩ => hc pins s1 σ H1 vs us Q I1 r1 q1) he hpl
end
end L2

namespace HT
open PySem PyProof.Rows



section
open PySem.SeqAt
open PySem.AutoSeq1 (wpAny_loadPart')
open PySem.MeetsSeq PySem.MeetsSeq2 PySem.MeetsSeq3

end

section
variable {prog : Program} {w : World} {A : Around} {E : Value → Shared → Prop} {s : Shared}



/-! ### t[a:b], not the whole -/
/-- a slice's bound as a place among n (d where it is left out) -/
def sIx (n d : Nat) : Option Int → Nat
  | none => d
  | some v => if v < 0 then (v + (n : Int)).toNat else min v.toNat n
theorem sIx_none (n d : Nat) : sIx n d none = d := rfl
theorem sIx_nat (n d k : Nat) : sIx n d (some (k : Int)) = min k n := by
  show (if (k : Int) < 0 then ((k : Int) + (n : Int)).toNat else min (k : Int).toNat n) = min k n
  rw [if_neg (by omega), Int.toNat_natCast]

end
end HT

namespace L2
open PySem PySem.Spec PyProof.Rows

/-! ### the parts of a slice -/
abbrev TO := St → Hp → (Option Int → Hp → Prop) → Prop
/-- a slice's part (left out, or an int) -/
def PO (X : Cx) (e : Option Expr) (t : TO) : Prop :=
  ∀ (pins : List (Addr × Obj)) (s : Shared) (σ : St) (H : Hp) (Q : Option Int → Hp → Prop), Inv X pins σ H s → t σ H Q →
    wpAny (model X.prog X.w) X.A (evalPart e X.env) (fun u s' => ∃ o H', Inv X pins σ H' s' ∧ IsPart u o ∧ Q o H') X.xe s
def tNoPart : TO := fun _ H Q => Q none H
def tPart (t : TE) : TO := fun σ H Q => t σ H fun x H1 => ∃ i, x = .int i ∧ Q (some i) H1


section
variable {X : Cx} {e : Expr} {te : TE} {lo hi : Option Expr} {tl th : TO} {pos p2 : Pos}

theorem po_none : PO X none tNoPart := by
  intro pins s σ H Q I h
  rw [evalPart_none]
  exact wpAny_pure ⟨none, H, I, .none, h⟩
theorem po_some (h : PE X e te) : PO X (some e) (tPart te) := by
  intro pins s σ H Q I hw
  rw [evalPart_some]
  refine thn (h pins s σ H _ I hw) fun u s1 ⟨x, H1, I1, r1, q1⟩ => ?_
  obtain ⟨i, rfl, q⟩ := q1
  obtain ⟨t, rfl⟩ := r1
  exact ⟨some i, H1, I1, .int i t, q⟩

/-- what a slice of a value is, by values: the slice object stands at sl -/
def SlR (X : Cx) (r : V → Option Int → Option Int → Hp → VK → Prop) : Prop :=
  ∀ (pins : List (Addr × Obj)) (s : Shared) (σ : St) (H : Hp) (x : V) (v vl vu : Value) (lo hi : Option Int) (sl : Addr) (Q : VK), Inv X pins σ H s → RelV x v → s.heap.IsSliceOf sl vl vu .none → IsPart vl lo → IsPart vu hi → r x lo hi H Q →
    ∃ T id, typeLookup (.type T) "__getitem__" = pure (some (.builtin id)) ∧ s.TypeIs v T ∧ wpAny (model X.prog X.w) X.A (getItem v (.ref sl)) (EP X pins σ Q) X.xe s
def tSl (r : V → Option Int → Option Int → Hp → VK → Prop) (te : TE) (tl th : TO) : TE := fun σ H Q => te σ H fun x H1 => tl σ H1 fun l H2 => th σ H2 fun u H3 => r x l u H3 Q
/-- a[lo:hi], any a -/
theorem pe_slice {r : V → Option Int → Option Int → Hp → VK → Prop} (hr : SlR X r) (he : PE X e te) (hl : PO X lo tl) (hu : PO X hi th) : PE X (.Subscript e (.Slice lo hi none p2) pos) (tSl r te tl th) := by
  intro pins s σ H Q I h
  refine Subscript_ (thn (he pins s σ H _ I h) fun v s1 ⟨x, H1, I1, r1, q1⟩ => ?_)
  refine wpAny_Slice (thn (hl pins s1 σ H1 _ I1 q1) fun vl s2 ⟨l, H2, I2, pl, q2⟩ => thn (hu pins s2 σ H2 _ I2 q2) fun vu s3 ⟨u, H3, I3, pu, q3⟩ => ?_)
  rw [evalPart_none]
  refine wpAny_pure ?_
  have I4 : Inv X pins σ H3 { s3 with heap := s3.heap.push { cls := .type "slice", data := .fields #[vl, vu, .none] } } := I3.kept (t' := s3.toks) fun b ob q => Heap.get?_push_of_some _ q
  obtain ⟨T, id, hT, ht, hg⟩ := hr pins { s3 with heap := s3.heap.push { cls := .type "slice", data := .fields #[vl, vu, .none] } } σ H3 x v vl vu l u s3.heap.objs.size Q I4 r1 (Heap.IsSliceOf.new ..) pl pu q3
  show wpAny (model X.prog X.w) X.A (subscriptTail e (.Slice lo hi none p2) v (.ref s3.heap.objs.size)) (EP X pins σ Q) X.xe { s3 with heap := s3.heap.push { cls := .type "slice", data := .fields #[vl, vu, .none] } }
  exact tail_any (ops := [.ref s3.heap.objs.size, v]) ht hT hg (by with_unfolding_all rfl)

/-- the items of xs[lo:hi] -/
def cutV (xs : List V) (lo hi : Option Int) : List V := (xs.drop (HT.sIx xs.length 0 lo)).take (HT.sIx xs.length xs.length hi - HT.sIx xs.length 0 lo)
theorem cutV_length (xs : List V) (lo hi : Option Int) : (cutV xs lo hi).length ≤ xs.length := by
  unfold cutV
  rw [List.length_take, List.length_drop]
  omega

/-! ### t < u, t + u -/
end
end L2

namespace L2
open PySem PySem.Spec PyProof.Rows

/-! ### places -/
/-- the place that an index of any sign means -/
def ixN (n : Nat) (i : Int) : Option Nat := if 0 ≤ i then (if i < n then some i.toNat else none) else if -(n : Int) ≤ i then some (i + n).toNat else none
def atI {α : Type} (xs : List α) (i : Int) : Option α := (ixN xs.length i).bind fun j => xs[j]?
theorem ixN_seq {n : Nat} {i : Int} {j : Nat} (h : ixN n i = some j) : seqIndex? i n = some j ∧ j < n ∧ -(n : Int) ≤ i ∧ i < n := by
  unfold ixN at h
  by_cases h0 : 0 ≤ i
  · rw [if_pos h0] at h
    by_cases h1 : i < n
    · rw [if_pos h1] at h
      have e : i.toNat = j := Option.some.inj h
      exact ⟨by rw [seqIndex_of h0 h1, e], by omega, by omega, h1⟩
    · rw [if_neg h1] at h; cases h
  · rw [if_neg h0] at h
    by_cases h1 : -(n : Int) ≤ i
    · rw [if_pos h1] at h
      have e : (i + n).toNat = j := Option.some.inj h
      exact ⟨by rw [seqIndex_neg (by omega) h1, e], by omega, h1, by omega⟩
    · rw [if_neg h1] at h; cases h
theorem atI_get {α : Type} {xs : List α} {i : Int} {v : α} (h : atI xs i = some v) : ∃ j, seqIndex? i xs.length = some j ∧ xs[j]? = some v ∧ j < xs.length ∧ -(xs.length : Int) ≤ i ∧ i < xs.length := by
  unfold atI at h
  cases e : ixN xs.length i with
  | none => rw [e] at h; cases h
  | some j =>
    rw [e] at h
    obtain ⟨h1, h2, h3, h4⟩ := ixN_seq e
    exact ⟨j, h1, h, h2, h3, h4⟩
theorem atI_nat {α : Type} {xs : List α} {j : Nat} {v : α} (h : xs[j]? = some v) : atI xs (j : Int) = some v := by
  have hj : j < xs.length := (List.getElem?_eq_some_iff.mp h).1
  have e : ixN xs.length (j : Int) = some j := by
    unfold ixN
    rw [if_pos (by omega), if_pos (by omega)]; simp
  unfold atI; rw [e]; exact h

/-! ### what may be subscripted -/
/-- what stands as an index of a plain subscript -/
def PlainIx (b : Expr) : Prop := ∀ o i, subscripted b false o i = operate [o, i] (getItem o i)
/-- a subscript by values -/
def IxR (X : Cx) (r : R2) : Prop :=
  ∀ (value slice : Expr) (pins : List (Addr × Obj)) (s : Shared) (σ : St) (H : Hp) (x y : V) (v u : Value) (Q : VK), Inv X pins σ H s → RelV x v → RelV y u → r x y H Q →
    subscripted slice false v u = operate [v, u] (getItem v u) → wpAny (model X.prog X.w) X.A (subscriptTail value slice v u) (EP X pins σ Q) X.xe s
/-- a call of a builtin's method by values: the receiver, the arguments -/
def MtR (X : Cx) (id : String) (r : V → List V → Hp → VK → Prop) : Prop :=
  ∀ (pins : List (Addr × Obj)) (s : Shared) (σ : St) (H : Hp) (x : V) (xs : List V) (v : Value) (us : List Value) (Q : VK), Inv X pins σ H s → RelV x v → Vals xs us → r x xs H Q →
    wpAny (model X.prog X.w) X.A (call (.builtin id) (v :: us)) (EP X pins σ Q) X.xe s
section
variable {X : Cx} {a b : Expr} {ta tb : TE} {pos : Pos}
/-- a[b] -/
theorem pe_ix {r : R2} (hr : IxR X r) (ha : PE X a ta) (hb : PE X b tb) (hs : PlainIx b) : PE X (.Subscript a b pos) (tOp r ta tb) := by
  intro pins s σ H Q I h
  exact Subscript_ (binT ha hb I h fun v u s2 x y H2 I2 rx ry q => hr a b pins s2 σ H2 x y v u Q I2 rx ry q (hs _ _))

def rIxL (K : PySem.W.Frag) : R2 := fun x y H Q => ∃ p xs i v, x = .ref p ∧ y = .int i ∧ SqL K H p xs ∧ atI xs i = some v ∧ Q v H
def rIxT (K : PySem.W.Frag) : R2 := fun x y H Q => ∃ p xs i v, x = .ref p ∧ y = .int i ∧ SqT K H p xs ∧ atI xs i = some v ∧ Q v H
theorem ix_list : IxR X (rIxL X.K) := by
  intro value slice pins s σ H x y v u Q I rx ry h hs
  obtain ⟨p, xs, i, z, rfl, rfl, hq, he, q⟩ := h
  cases rx
  obtain ⟨t, rfl⟩ := ry
  obtain ⟨its, r, pl, hz⟩ := I.list hq
  obtain ⟨j, h1, h2, h3, h4, h5⟩ := atI_get he
  obtain ⟨w, ew, rw'⟩ := r.get h2
  have hl := r.length
  have hn := line63
  have fin : EP X pins σ Q w s := ⟨z, H, I, rw', q⟩
  by_cases h0 : 0 ≤ i
  · have hj : i.toNat = j := by
      rw [seqIndex_of h0 h5] at h1
      exact Option.some.inj h1
    exact item_listR pl.isList h0 (by omega) (by rw [hj]; simpa using ew) fin hs
  · have hj : (i + (its.toArray.size : Int)).toNat = j := by
      rw [seqIndex_neg (by omega) h4] at h1
      rw [List.size_toArray, ← hl]
      exact Option.some.inj h1
    exact subscriptTail_builtinR (x := w) pl.isList.typeIs slot_list_getitem.lookup
      (wpAny_getItem_list_neg (Q := fun r s' => r = w ∧ EP X pins σ Q r s') pl.isList (by omega) (by rw [List.size_toArray] <;> omega) (by omega) (by rw [hj]; simpa using ew) ⟨rfl, fin⟩) hs
theorem ix_tup : IxR X (rIxT X.K) := by
  intro value slice pins s σ H x y v u Q I rx ry h hs
  obtain ⟨p, xs, i, z, rfl, rfl, hq, he, q⟩ := h
  cases rx
  obtain ⟨t, rfl⟩ := ry
  obtain ⟨its, r, pl, hz⟩ := I.tuple hq
  obtain ⟨j, h1, h2, h3, h4, h5⟩ := atI_get he
  obtain ⟨w, ew, rw'⟩ := r.get h2
  have hl := r.length
  have hn := line63
  have fin : EP X pins σ Q w s := ⟨z, H, I, rw', q⟩
  exact subscriptTail_builtinR (x := w) pl.typeIs slot_tuple_getitem.lookup
    (getItem_tuple (j := j) (Q := fun r s' => r = w ∧ EP X pins σ Q r s') pl (by omega) (by omega) (by rw [List.size_toArray, ← hl]; exact h1) (by simpa using ew) ⟨rfl, fin⟩) hs

/-! ### xs[i] = v, any sign -/

/-! ### slices -/
theorem slice_bounds (lo hi : Option Int) (n : Nat) : (sliceBounds lo hi none n).1 = ((HT.sIx n 0 lo : Nat) : Int) ∧ (sliceBounds lo hi none n).2.1 = ((HT.sIx n n hi : Nat) : Int) ∧ (sliceBounds lo hi none n).2.2 = 1 := by
  refine ⟨?_, ?_, rfl⟩
  · cases lo with
    | none => simp [sliceBounds, HT.sIx]
    | some i =>
      simp only [sliceBounds, HT.sIx, Option.getD_none, show (1 : Int) > 0 by decide, if_true]
      by_cases h : i < 0
      · simp only [h, if_true] <;> omega
      · simp only [h, if_false] <;> omega
  · cases hi with
    | none => simp [sliceBounds, HT.sIx]
    | some i =>
      simp only [sliceBounds, HT.sIx, Option.getD_none, show (1 : Int) > 0 by decide, if_true]
      by_cases h : i < 0
      · simp only [h, if_true] <;> omega
      · simp only [h, if_false] <;> omega
theorem slicePick_cut (its : List Value) (lo hi : Option Int) : slicePick its.toArray lo hi none = ((its.drop (HT.sIx its.length 0 lo)).take (HT.sIx its.length its.length hi - HT.sIx its.length 0 lo)).toArray := by
  obtain ⟨h1, h2, h3⟩ := slice_bounds lo hi its.toArray.size
  unfold slicePick
  rw [h1, h2, h3]
  simp only [sliceRange_one, pick_run, List.size_toArray] <;> rfl
/-- xs[lo:hi] of a list: a new list -/
def rSlL (K : PySem.W.Frag) : V → Option Int → Option Int → Hp → VK → Prop := fun x lo hi H Q => ∃ a xs, x = .ref a ∧ SqL K H a xs ∧ ∀ p, H p = none → Q (.ref p) (upd H p (.lst (cutV xs lo hi)))
theorem sl_list : SlR X (rSlL X.K) := by
  intro pins s σ H x v vl vu lo hi sl Q I rx hs pl pu h
  obtain ⟨a, xs, rfl, hx, q⟩ := h
  cases rx
  obtain ⟨its, r, ht, hz⟩ := I.list hx
  have hlen := r.length
  refine ⟨"list", _, slot_list_getitem.lookup, ht.isList.typeIs, ?_⟩
  refine wpAny_getItem_list_slice ht.isList hs pl pu .none (by simp) ?_ (by rw [List.size_toArray] <;> omega)
  rw [slicePick_cut, ← hlen]
  refine ⟨.ref s.heap.objs.size, _, I.laid (t' := s.toks) (o := .lst (cutV xs lo hi)) (fun b ob q => Heap.get?_push_of_some _ q) (Nat.le_refl _) ?_, rfl, q _ (I.hok.fresh (Nat.le_refl _))⟩
  exact ⟨Nat.le_trans (cutV_length xs lo hi) hz, _, 0, (r.drop (HT.sIx xs.length 0 lo)).take (HT.sIx xs.length xs.length hi - HT.sIx xs.length 0 lo), Heap.get?_push_size _ rfl⟩

/-! ### in, not in: flat items -/

/-! ### len, list(x), tuple(x) of any list or tuple that is read -/
theorem call_len_seq : CallR X (.builtin "len") (fun xs H Q => ∃ p ys, xs = [.ref p] ∧ (SqL X.K H p ys ∨ SqT X.K H p ys) ∧ Q (.int ys.length) H) := by
  intro pins s σ H xs us Q I r h
  obtain ⟨p, ys, rfl, hq, q⟩ := h
  obtain ⟨u, rfl, rx⟩ := vals1 r
  cases rx
  have hn := line63
  rcases hq with hq | hq
  · obtain ⟨its, r', pl, hz⟩ := I.list hq
    have hlen := r'.length
    exact Calls.call_len_list pl.isList (by simp only [List.size_toArray] <;> omega) ⟨.int ys.length, H, I.tok _, ⟨s.toks + 1, by rw [List.size_toArray, hlen]⟩, q⟩
  · obtain ⟨its, r', pl, hz⟩ := I.tuple hq
    have hlen := r'.length
    exact len_tuple pl (by simp only [List.size_toArray] <;> omega) ⟨.int ys.length, H, I.tok _, ⟨s.toks + 1, by rw [List.size_toArray, hlen]⟩, q⟩

/-! ### the call of a builtin's method: o.m(..) -/
/-- the value is of that builtin type -/
def tyV (K : PySem.W.Frag) (T : String) (x : V) (H : Hp) : Prop := match x with
  | .str _ => T = "str"
  | .int _ => T = "int"
  | .ref p => (T = "list" ∧ ∃ xs, SqL K H p xs) ∨ (T = "tuple" ∧ ∃ o, K.lookup p = some o ∧ o.cls = .type "tuple" ∧ o.dict = none) ∨
      (T = "dict" ∧ ((∃ kvs, H p = some (.dK kvs)) ∨ ∃ kvs, H p = some (.dT kvs))) ∨ (T = "set" ∧ ∃ S n, H p = some (.set S n))
  | _ => False
theorem tyV_is {pins : List (Addr × Obj)} {σ : St} {H : Hp} {s : Shared} {T : String} {x : V} {v : Value} (I : Inv X pins σ H s) (r : RelV x v) (ty : tyV X.K T x H) :
    s.TypeIs v T ∧ ∀ a, v = .ref a → ∃ ob, s.heap.get? a = some ob ∧ ob.dict = none := by
  cases x with
  | str z =>
    obtain ⟨t, rfl⟩ := r
    cases (show T = "str" from ty)
    exact ⟨typeIs_str s z t, fun _ e => nomatch e⟩
  | int i =>
    obtain ⟨t, rfl⟩ := r
    cases (show T = "int" from ty)
    exact ⟨typeIs_int s i t, fun _ e => nomatch e⟩
  | ref p =>
    cases r
    rcases ty with ⟨rfl, xs, hq⟩ | ⟨rfl, o, hk, hc, hd⟩ | ⟨rfl, hk⟩ | ⟨rfl, S, n, hk⟩
    · obtain ⟨its, _, pl, _⟩ := I.list hq
      refine ⟨pl.isList.typeIs, fun a e => ?_⟩
      cases e
      obtain ⟨o, n, e, c, hd, _⟩ := pl
      exact ⟨o, e, hd⟩
    · refine ⟨⟨o, I.kIn p o hk, hc⟩, fun a e => ?_⟩
      cases e
      exact ⟨o, I.kIn _ o hk, hd⟩
    · have z : ∃ o, s.heap.get? p = some o ∧ o.ExactDict := by
        rcases hk with ⟨kvs, hk⟩ | ⟨kvs, hk⟩
        · obtain ⟨_, _, _, _, o, _, _, e, ex, _⟩ := I.hok p _ hk
          exact ⟨o, e, ex⟩
        · obtain ⟨_, _, _, _, o, _, _, e, ex, _⟩ := I.hok p _ hk
          exact ⟨o, e, ex⟩
      obtain ⟨o, e, ex⟩ := z
      refine ⟨⟨o, e, ex.1⟩, fun a e2 => ?_⟩
      cases e2
      exact ⟨o, e, ex.2.1⟩
    · obtain ⟨o, _, _, _, e, ex, _⟩ := I.hok p _ hk
      refine ⟨⟨o, e, ex.1⟩, fun a e2 => ?_⟩
      cases e2
      exact ⟨o, e, ex.2.1⟩
  | _ => exact False.elim ty
def tBM (K : PySem.W.Frag) (T : String) (r : V → List V → Hp → VK → Prop) (to : TE) (t : TA) : TE := fun σ H Q => to σ H fun x H1 => tyV K T x H1 ∧ t σ H1 fun xs H2 => r x xs H2 Q
variable {o e : Expr} {es : List Expr} {to : TE} {t : TA} {name : Str} {apos cpos : Pos} {T id : String} {r : V → List V → Hp → VK → Prop}
theorem pe_bm (pa : PlainAttrs T) (slot : Slot T name id) (hty : typeOf (.builtin id) = pure (.type "method_descriptor")) (hm : MtR X id r) (ho : PE X o to) (ha : PA X (e :: es) t)
    (hbase : attributeBase o name X.env (eval o X.env) = eval o X.env := by rfl)
    (hfew : ((backTo cpos (starEach (e :: es) X.env)).all (fun x => !x.1) && (backToKw cpos (keywordEach [] X.env)).all (fun x => x.1.isSome)
      && decide ((e :: es).length + ([] : List Keyword).length + (if ([] : List Keyword).isEmpty then 0 else 1) < 30)) = true := by rfl)
    (hline : (apos.endLine == cpos.line) = true := by rfl) (hs : starEach (e :: es) X.env = (false, eval e X.env) :: starEach es X.env := by rfl) (hplain : (backTo cpos (starEach es X.env)).any (·.1) = false := by rfl) :
    PE X (.Call (.Attribute o name apos) (e :: es) [] cpos) (tBM X.K T r to t) := by
  intro pins s σ H Q I h
  refine wpAny_Call_method_late hbase hfew hline rfl (thn (ho pins s σ H _ I h) fun v s1 ⟨x, H1, I1, r1, ty, q1⟩ => ?_)
  obtain ⟨h1, h2⟩ := tyV_is I1 r1 ty
  refine ⟨T, id, pa, slot, hty, h1, h2, ?_⟩
  have hA := ha cpos pins s1 σ H1 _ I1 q1
  rw [hs] at hA ⊢
  refine Calls.callWith_builtin (by show (false || (backTo cpos (starEach es X.env)).any (·.1)) = false; rw [hplain] <;> rfl) (Calls.evalArgs_plain ?_)
  exact thn hA fun us s2 ⟨vs, H2, I2, r2, q2⟩ => hm pins s2 σ H2 x vs v us Q I2 r1 r2 q2
/- xs.append(e), list.index on a module's tuple .. are MtR facts of 06m -/
end
end L2

namespace L2
open PySem PySem.Spec PyProof.Rows

def MtM (X : Cx) (id : String) (r : V → List V → Hp → VK → Prop) : Prop :=
  ∀ (pins : List (Addr × Obj)) (s : Shared) (σ : St) (H : Hp) (x : V) (xs : List V) (v : Value) (us : List Value) (Q : VK), Inv X pins σ H s → RelV x v → Vals xs us → r x xs H Q →
    wpAny (model X.prog X.w) X.A (call (.builtin id) (v :: us)) (EP X pins σ Q) X.xe s

/-! ### lists of values -/
theorem Vals.one : ∀ {x : V} {us : List Value}, Vals [x] us → ∃ u, us = [u] ∧ RelV x u
  | _, _, .cons r .nil => ⟨_, rfl, r⟩

section
variable {X : Cx} {pins : List (Addr × Obj)} {σ : St} {H : Hp} {s : Shared} {l b : Addr} {xs ys zs : List V}

/-! ### the two steps: a tracked list is rewritten, a new list is laid -/
theorem Inv.lset {its its' : List Value} {n : Nat} {f : Array Value → Array Value} {t' : Nat} (I : Inv X pins σ H s) (hH : H l = some (.lst xs))
    (e : s.heap.get? l = some { cls := .type "list", data := .seq its.toArray n }) (hf : f its.toArray = its'.toArray) (hv : Vals ys its') (hz : ys.length ≤ sizeLine) :
    Inv X pins σ (upd H l (.lst ys)) { s with heap := s.heap.update l (Obj.mapSeq f), toks := t' } := by
  have q := PySem.IsL.update e f
  rw [hf] at q
  refine I.write (x := l) (e := l) (by rw [hH]; exact trivial) (.inl rfl) (fun b' u hb hu => (Heap.get?_update_other s.heap (Obj.mapSeq f) (Ne.symm hb)).trans hu) ⟨_, q⟩ ?_
  exact ⟨hz, its', _, hv, q⟩
theorem Inv.lnew {its : List Value} {t' : Nat} (I : Inv X pins σ H s) (hv : Vals ys its) (hz : ys.length ≤ sizeLine) :
    Inv X pins σ (upd H s.heap.objs.size (.lst ys)) { s with heap := s.heap.push { cls := .type "list", data := .seq its.toArray }, toks := t' } :=
  I.laid (fun _ _ q => Heap.get?_push_of_some _ q) (Nat.le_refl _) ⟨hz, its, 0, hv, Heap.get?_push_size _ rfl⟩
theorem Inv.fresh (I : Inv X pins σ H s) : H s.heap.objs.size = none := I.hok.fresh (Nat.le_refl _)
theorem Inv.lstM (I : Inv X pins σ H s) (hH : H l = some (.lst xs)) : xs.length ≤ sizeLine ∧ ∃ (its : List Value) (n : Nat), Vals xs its ∧ xs.length = its.length ∧ s.heap.get? l = some { cls := .type "list", data := .seq its.toArray n } := by
  obtain ⟨z, its, n, r, e⟩ := I.hok l _ hH
  exact ⟨z, its, n, r, r.length, e⟩

theorem notLongL {n : Nat} (h : n ≤ sizeLine) : Builtin.List.listTooLong n = false := by
  unfold Builtin.List.listTooLong
  exact decide_eq_false (by omega)
end

section
variable {X : Cx}

/-! ### methods -/
def rAppend : V → List V → Hp → VK → Prop := fun x vs H Q => ∃ l xs y, x = .ref l ∧ vs = [y] ∧ H l = some (.lst xs) ∧ xs.length < sizeLine ∧ Q .non (upd H l (.lst (xs ++ [y])))
theorem mt_append : MtM X "list.append" rAppend := by
  intro pins s σ H x vs v us Q I rx rv h
  obtain ⟨l, xs, y, rfl, rfl, hH, hz, q⟩ := h
  cases rx
  obtain ⟨u, rfl, ru⟩ := rv.one
  obtain ⟨z, its, n, r, hl, e⟩ := I.lstM hH
  refine call_meets F.slot_list_append ⟨_, e, rfl⟩ F.entry_list_append (F.args_list_append_2 _ _) (PySem.list_append l its.toArray n u (by rw [List.size_toArray]; omega)) ⟨e, ?_⟩
  refine ⟨.non, _, I.lset (its' := its ++ [u]) hH e (by simp) (r.append (.cons ru .nil)) ?_, rfl, q⟩
  rw [List.length_append, List.length_singleton]
  omega

def rExtend : V → List V → Hp → VK → Prop := fun x vs H Q => ∃ l b xs zs, x = .ref l ∧ vs = [.ref b] ∧ H l = some (.lst xs) ∧ H b = some (.lst zs) ∧ xs.length + zs.length ≤ sizeLine ∧ Q .non (upd H l (.lst (xs ++ zs)))
theorem mt_extend : MtM X "list.extend" rExtend := by
  intro pins s σ H x vs v us Q I rx rv h
  obtain ⟨l, b, xs, zs, rfl, rfl, hH, hB, hz, q⟩ := h
  cases rx
  obtain ⟨u, rfl, ru⟩ := rv.one
  cases ru
  obtain ⟨z, its, n, r, hl, e⟩ := I.lstM hH
  obtain ⟨z2, its2, n2, r2, hl2, e2⟩ := I.lstM hB
  have hsz : its.toArray.size + its2.toArray.size ≤ sizeLine := by rw [List.size_toArray, List.size_toArray]; omega
  have hlong : ¬ (!its.toArray.isEmpty && Builtin.List.listTooLong (its.toArray.size + its2.toArray.size)) = true := by
    rw [notLongL hsz, Bool.and_false]
    exact Bool.false_ne_true
  refine call_meets F.slot_list_extend ⟨_, e, rfl⟩ F.entry_list_extend (F.args_list_extend_2 _ _)
    (AutoSeq1.list_extend_list_list_0 l its.toArray n b its2.toArray n2 hlong (by rw [List.size_toArray]; omega) (by omega)) ⟨e, e2, ?_⟩
  refine ⟨.non, _, I.lset (its' := its ++ its2) hH e (by simp) (r.append r2) ?_, rfl, q⟩
  rw [List.length_append]
  omega





/-! ### list + list, list += list, list * int -/
def rCat : R2 := fun x y H Q => ∃ l b xs zs, x = .ref l ∧ y = .ref b ∧ H l = some (.lst xs) ∧ H b = some (.lst zs) ∧ xs.length + zs.length ≤ sizeLine ∧ ∀ p, H p = none → Q (.ref p) (upd H p (.lst (xs ++ zs)))
theorem op_cat : OpR X (binaryOp .Add) rCat := by
  intro pins s σ H x y v u Q I rx ry h
  obtain ⟨l, b, xs, zs, rfl, rfl, hH, hB, hz, q⟩ := h
  cases rx
  cases ry
  obtain ⟨z, its, n, r, hl, e⟩ := I.lstM hH
  obtain ⟨z2, its2, n2, r2, hl2, e2⟩ := I.lstM hB
  refine PySem.P.add_list e e2 ?_ (by rw [List.size_toArray, List.size_toArray]; omega)
  have ea : its.toArray ++ its2.toArray = (its ++ its2).toArray := by simp
  rw [ea]
  exact ⟨.ref _, _, I.lnew (t' := s.toks) (r.append r2) (by rw [List.length_append]; omega), rfl, q _ I.fresh⟩

/-! ### del xs[i] -/
end

/-! ### xs[a:b] = ys -/
section
variable {prog : Program} {w : World} {A : Around} {E : Value → Shared → Prop} {s : Shared}
set_option maxRecDepth 100000 in
end

section
variable {X : Cx}
end
end L2

namespace L2
open PySem PySem.Spec PyProof.Rows

theorem Vals.bls : ∀ {bs : List Bool} {us : List Value}, Vals (bs.map V.bl) us → us = bs.map Value.bool
  | [], us, h => by
    rw [List.map_nil] at h
    cases h
    rfl
  | b :: bs, us, h => by
    rw [List.map_cons] at h
    cases h with
    | cons r t =>
      cases r
      rw [Vals.bls t, List.map_cons]
theorem Vals.ref1 {a : Addr} {us : List Value} (r : Vals [V.ref a] us) : us = [Value.ref a] := by
  cases r with
  | cons r t =>
    cases t
    cases r
    rfl

/-! ### the library's walks over a list of ints, kept objects alone -/
section
variable {prog : Program} {w : World} {A : Around} {E : Value → Shared → Prop} {s : Shared} {l : Addr} {its : List Value} {ns : List Int} {Q : Value → Shared → Prop}
end

/-! ### the calls, by values (CallR of 03t; MtR of 06l) -/
section
variable {X : Cx}

/-! sorted, sort (fewer than 64 items: the library's own bound) -/
end

/-! ### list.index, flat items -/
section
variable {X : Cx}
end

/-! ### type(x) of an own instance; is, is not of a module's class -/
section
variable {X : Cx}
end

/-! ### any(xs), all(xs) of a list of bools -/
theorem iter_any {prog : Program} {w : World} {A : Around} {E : Value → Shared → Prop} {s : Shared} {l : Addr} {items : Array Value} {Q : Value → Shared → Prop} (hl : s.heap.IsList l items)
    (h : ∀ s₂ : Shared, s₂ = { s with heap := s.heap.push { cls := .type "list_iterator", data := .fields #[.ref l, .int 0 0] } } →
      (s₂.heap.IsListIter s.heap.objs.size l 0 ∧ s₂.heap.IsList l items) → l ≠ s.heap.objs.size → Q (.ref s.heap.objs.size) s₂) : wpAny (model prog w) A (pyIter (.ref l)) Q E s := by
  have hlt : l < s.heap.objs.size := by obtain ⟨_, e, _⟩ := hl; exact Heap.lt_size e
  exact wpAny_pyIter_list hl (h _ rfl ⟨⟨_, Heap.get?_push_size _ rfl, rfl, rfl⟩, hl.push _⟩ (Nat.ne_of_lt hlt))
theorem truth_bools {prog : Program} {w : World} {A : Around} {bs : List Bool} {its : List Value} (e : its = bs.map Value.bool) :
    TruthOf prog w A (fun i v => its.toArray[i]? = some v) (fun i => bs.getD i false) := fun i v s Q E hv hq => by
  have hv' : its[i]? = some v := by simpa using hv
  rw [e, List.getElem?_map] at hv'
  obtain ⟨b, hb, rfl⟩ := Option.map_eq_some_iff.mp hv'
  have hg : bs.getD i false = b := by rw [List.getD_eq_getElem?_getD, hb] <;> rfl
  have hq' : Q (bs.getD i false) s := hq
  rw [hg] at hq'
  exact wpAny_truthy_bool hq'
theorem any_range : ∀ bs : List Bool, (List.range bs.length).any (fun i => bs.getD i false) = bs.any id
  | [] => rfl
  | b :: bs => by
    rw [List.length_cons, List.range_succ_eq_map, List.any_cons, List.any_map, List.any_cons, ← any_range bs]
    all_goals rfl
section
variable {X : Cx}
def rAny (K : PySem.W.Frag) : List V → Hp → VK → Prop := fun vs H Q => ∃ (a : Addr) (bs : List Bool), vs = [V.ref a] ∧ SqL K H a (bs.map V.bl) ∧ Q (.bl (bs.any id)) H
theorem cr_any (hc : X.calm = true) : CallR X (.builtin "any") (rAny X.K) := by
  intro pins s σ H vs us Q I r h
  obtain ⟨a, bs, rfl, hs, q⟩ := h
  obtain ⟨its, rv, hl, _⟩ := I.list hs
  rw [Vals.ref1 r]
  have hb := rv.bls
  refine call_any_walk (iter_any hl.isList fun s₂ e2 st hne => ?_)
  subst e2
  refine ⟨_, _, _, _, _, _, _, rfl, Walks.list (A := X.A.in1) (I.ok.hd hc) _ a hne its.toArray, st, truth_bools hb, fun h' tk hk => ?_⟩
  refine ⟨.bl _, H, I.kept fun b o eo => hk b o (fun hmem => ?_) (Heap.get?_push_of_some _ eo), ?_, q⟩
  · rcases List.mem_cons.mp hmem with e1 | hmem
    · exact absurd (e1 ▸ Heap.lt_size eo) (Nat.lt_irrefl _)
    · cases hmem
  · show Value.bool _ = Value.bool _
    rw [← any_range, hb, List.size_toArray, List.length_map]
end

/-! ### == and != of data at any depth: none, bools, ints, texts, lists, tuples -/
mutual
inductive Dp (K : PySem.W.Frag) (H : Hp) : V → PyData → Prop
  | non : Dp K H .non .none
  | bl (b : Bool) : Dp K H (.bl b) (.bool b)
  | int (i : Int) : Dp K H (.int i) (.int i)
  | str (x : Str) : Dp K H (.str x) (.str x)
  | lst {a : Addr} {xs : List V} {ds : List PyData} : SqL K H a xs → DpAll K H xs ds → Dp K H (.ref a) (.list ds)
  | tup {a : Addr} {xs : List V} {ds : List PyData} : SqT K H a xs → DpAll K H xs ds → Dp K H (.ref a) (.tuple ds)
inductive DpAll (K : PySem.W.Frag) (H : Hp) : List V → List PyData → Prop
  | nil : DpAll K H [] []
  | cons {v : V} {vs : List V} {d : PyData} {ds : List PyData} : Dp K H v d → DpAll K H vs ds → DpAll K H (v :: vs) (d :: ds)
end
section
variable {X : Cx} {pins : List (Addr × Obj)} {σ : St} {H : Hp} {s : Shared}
mutual
theorem Dp.reads (I : Inv X pins σ H s) : ∀ (d : PyData) (v : V) (u : Value), Dp X.K H v d → RelV v u → ∃ as, Reads s.heap u d as
  | .none, _, _, h, r => by
    cases h
    cases r
    exact ⟨_, Reads.none⟩
  | .bool b, _, _, h, r => by
    cases h
    cases r
    exact ⟨_, Reads.bool b⟩
  | .int i, _, _, h, r => by
    cases h
    obtain ⟨t, rfl⟩ := r
    exact ⟨_, Reads.int i t⟩
  | .str x, _, _, h, r => by
    cases h
    obtain ⟨t, rfl⟩ := r
    exact ⟨_, Reads.str x t⟩
  | .list ds, _, _, h, r => by
    cases h with
    | lst hs ha =>
      cases r
      obtain ⟨its, rv, ⟨o, n, ho, hc, _, hd⟩, _⟩ := I.list hs
      obtain ⟨as, hr⟩ := Dp.readsAll I ds _ its ha rv
      exact ⟨_, Reads.list ho hc hd hr⟩
  | .tuple ds, _, _, h, r => by
    cases h with
    | tup hs ha =>
      cases r
      obtain ⟨its, rv, ⟨o, ho, hc, n, hd⟩, _⟩ := I.tuple hs
      obtain ⟨as, hr⟩ := Dp.readsAll I ds _ its ha rv
      exact ⟨_, Reads.tuple ho hc hd hr⟩
  | .dict _, _, _, h, _ => by cases h
theorem Dp.readsAll (I : Inv X pins σ H s) : ∀ (ds : List PyData) (vs : List V) (us : List Value), DpAll X.K H vs ds → Vals vs us → ∃ as, ReadsAll s.heap us ds as
  | [], _, _, h, r => by
    cases h
    cases r
    exact ⟨_, ReadsAll.nil⟩
  | d :: ds, _, _, h, r => by
    cases h with
    | cons h1 h2 =>
      cases r with
      | cons r1 r2 =>
        obtain ⟨as, q1⟩ := Dp.reads I d _ _ h1 r1
        obtain ⟨bs, q2⟩ := Dp.readsAll I ds _ _ h2 r2
        exact ⟨_, ReadsAll.cons q1 q2⟩
end
end
section
variable {X : Cx}
def rEqD (K : PySem.W.Frag) : R2 := fun x y H Q => ∃ d e, Dp K H x d ∧ Dp K H y e ∧ SeqAt.shaped d = true ∧ SeqAt.shaped e = true ∧ Q (.bl (PyData.eqv d e)) H
theorem op_eqD (hu : X.A.units + 64 < cLine) : OpR X (compareOp .Eq) (rEqD X.K) := by
  intro pins s σ H x y v u Q I rx ry h
  obtain ⟨d, e, hd, he, sd, se, q⟩ := h
  obtain ⟨as, r1⟩ := Dp.reads I d x v hd rx
  obtain ⟨bs, r2⟩ := Dp.reads I e y u he ry
  exact SeqAt.compareEq_shaped r1 r2 sd se hu ⟨.bl _, H, I, rfl, q⟩
end
end L2

namespace L2
open PySem PySem.Spec PyProof.Rows
abbrev CellAt (h : Heap) (c : Addr) (v : Option Value) : Prop := h.IsCell c v
def relS (scope sc : Scope) : Scope :=
  { scope with names := scope.names.map fun (n, k) => if (k == .free && sc.kind == .function && sc.names.lookup n == some .cell) then (n, .cell) else (n, k) }

def cloFrom (cells : List (Str × Addr)) : List (Str × NameKind) → List (Str × Addr) → List (Str × Addr)
  | [], acc => acc
  | (n, k) :: r, acc => if k == .free then cloFrom cells r ((n, (cells.lookup n).getD 0) :: acc) else cloFrom cells r acc

theorem closure_loop (env : Env) (f : Str × NameKind → List (Str × Addr) → Sem (ForInStep (List (Str × Addr))))
    (hf : ∀ n k c, f (n, k) c = if k == .free then (do let a ← cellOf env n; pure (.yield ((n, a) :: c))) else pure (.yield c)) :
    ∀ (names : List (Str × NameKind)) (acc : List (Str × Addr)), (∀ y ∈ names, y.2 = .free → ∃ c, env.cells.lookup y.1 = some c) → forIn names acc f = pure (cloFrom env.cells names acc)
  | [], acc, _ => by rw [List.forIn_nil]; rfl
  | (n, k) :: r, acc, h => by
    rw [List.forIn_cons, hf]
    have ih := fun acc => closure_loop env f hf r acc fun y hy => h y (List.mem_cons_of_mem _ hy)
    unfold cloFrom
    by_cases hk : (k == NameKind.free) = true
    · rw [if_pos hk, if_pos hk]
      obtain ⟨c, hc⟩ := h (n, k) List.mem_cons_self (by simpa using hk)
      have e : cellOf env n = pure c := by unfold cellOf; rw [hc]
      rw [e]
      have e2 : (env.cells.lookup n).getD 0 = c := by rw [hc]; rfl
      rw [e2]
      exact ih _
    · rw [if_neg hk, if_neg hk]
      exact ih _
theorem closure_ok {scope : Scope} {env : Env} (h : ∀ y ∈ scope.names, y.2 = .free → ∃ c, env.cells.lookup y.1 = some c) : closureFor scope env = pure (cloFrom env.cells scope.names []) := by
  simp only [closureFor]
  rw [closure_loop env _ (fun n k c => rfl) scope.names [] h]
  rfl

theorem mem_lookup {α : Type} : ∀ {l : List (Str × α)} {n : Str} {c : α}, (n, c) ∈ l → ∃ c', l.lookup n = some c'
  | (k, v) :: r, n, c, h => by
    rw [List.lookup_cons]
    cases hb : n == k with
    | true => exact ⟨_, rfl⟩
    | false =>
      rcases List.mem_cons.mp h with e | h
      · cases e; simp at hb
      · exact mem_lookup h

theorem cloFrom_mem {cells : List (Str × Addr)} : ∀ {names : List (Str × NameKind)} {acc : List (Str × Addr)} {n : Str} {c : Addr}, (n, c) ∈ cloFrom cells names acc → (n, c) ∈ acc ∨ ((n, .free) ∈ names ∧ c = (cells.lookup n).getD 0)
  | [], _, _, _, h => .inl h
  | (m, k) :: r, acc, n, c, h => by
    unfold cloFrom at h
    split at h
    · rename_i hk
      have hk : k = .free := by simpa using hk
      rcases cloFrom_mem h with h | ⟨h1, h2⟩
      · rcases List.mem_cons.mp h with e | h
        · cases e; exact .inr ⟨hk ▸ List.mem_cons_self, rfl⟩
        · exact .inl h
      · exact .inr ⟨List.mem_cons_of_mem _ h1, h2⟩
    · rcases cloFrom_mem h with h | ⟨h1, h2⟩
      · exact .inl h
      · exact .inr ⟨List.mem_cons_of_mem _ h1, h2⟩
theorem cloFrom_acc {cells : List (Str × Addr)} : ∀ {names : List (Str × NameKind)} {acc : List (Str × Addr)} {p : Str × Addr}, p ∈ acc → p ∈ cloFrom cells names acc
  | [], _, _, h => h
  | (m, k) :: r, acc, p, h => by
    unfold cloFrom
    split
    · exact cloFrom_acc (List.mem_cons_of_mem _ h)
    · exact cloFrom_acc h
theorem cloFrom_has {cells : List (Str × Addr)} : ∀ {names : List (Str × NameKind)} {acc : List (Str × Addr)} {n : Str}, (n, .free) ∈ names → (n, (cells.lookup n).getD 0) ∈ cloFrom cells names acc
  | (m, k) :: r, acc, n, h => by
    unfold cloFrom
    rcases List.mem_cons.mp h with e | h
    · cases e
      exact cloFrom_acc List.mem_cons_self
    · split
      · exact cloFrom_has h
      · exact cloFrom_has h

theorem cells_mem : ∀ {names : List (Str × NameKind)} {h : Heap} {acc : List (Str × Addr)} {x : Str} {c : Addr}, (x, c) ∈ cellsFrom h.objs.size names acc →
    (x, c) ∈ acc ∨ ((x, .cell) ∈ names ∧ h.objs.size ≤ c ∧ CellAt (pushCells h names) c none)
  | [], _, _, _, _, h => .inl h
  | (n, k) :: r, h, acc, x, c, hm => by
    unfold cellsFrom at hm
    unfold pushCells
    split at hm
    · rename_i hk
      rw [if_pos hk]
      have hk : k = .cell := by simpa using hk
      rw [← Heap.size_push h { cls := .type "cell", data := .cell none }] at hm
      rcases cells_mem hm with hm | ⟨h1, h2, h3⟩
      · rcases List.mem_cons.mp hm with e | hm
        · cases e
          exact .inr ⟨hk ▸ List.mem_cons_self, Nat.le_refl _, _, pushCells_keeps r _ _ _ (Heap.get?_push_size _ rfl), rfl⟩
        · exact .inl hm
      · rw [Heap.size_push] at h2
        exact .inr ⟨List.mem_cons_of_mem _ h1, Nat.le_of_succ_le h2, h3⟩
    · rename_i hk
      rw [if_neg hk]
      rcases cells_mem hm with hm | ⟨h1, h2, h3⟩
      · exact .inl hm
      · exact .inr ⟨List.mem_cons_of_mem _ h1, h2, h3⟩
theorem cells_acc : ∀ {names : List (Str × NameKind)} {n : Nat} {acc : List (Str × Addr)} {p : Str × Addr}, p ∈ acc → p ∈ cellsFrom n names acc
  | [], _, _, _, h => h
  | (m, k) :: r, n, acc, p, h => by
    unfold cellsFrom
    split
    · exact cells_acc (List.mem_cons_of_mem _ h)
    · exact cells_acc h
theorem cells_has : ∀ {names : List (Str × NameKind)} {n : Nat} {acc : List (Str × Addr)} {x : Str}, (x, .cell) ∈ names → ∃ c, (x, c) ∈ cellsFrom n names acc
  | (m, k) :: r, n, acc, x, h => by
    unfold cellsFrom
    rcases List.mem_cons.mp h with e | h
    · cases e
      exact ⟨n, cells_acc List.mem_cons_self⟩
    · split
      · exact cells_has h
      · exact cells_has h
theorem cells_inj : ∀ {names : List (Str × NameKind)} {h : Heap} {acc : List (Str × Addr)} {x y : Str} {c : Addr}, (∀ p ∈ acc, p.2 < h.objs.size) → (∀ x y c, (x, c) ∈ acc → (y, c) ∈ acc → x = y) →
    (x, c) ∈ cellsFrom h.objs.size names acc → (y, c) ∈ cellsFrom h.objs.size names acc → x = y
  | [], _, _, _, _, _, _, hi, h1, h2 => hi _ _ _ h1 h2
  | (n, k) :: r, h, acc, x, y, c, hl, hi, h1, h2 => by
    unfold cellsFrom at h1 h2
    split at h1
    · rename_i hk
      rw [if_pos hk] at h2
      rw [← Heap.size_push h { cls := .type "cell", data := .cell none }] at h1 h2
      refine cells_inj (h := h.push _) (fun p hp => ?_) (fun x y c a b => ?_) h1 h2
      · rw [Heap.size_push]
        rcases List.mem_cons.mp hp with rfl | hp
        · exact Nat.lt_succ_self _
        · exact Nat.lt_succ_of_lt (hl p hp)
      · rcases List.mem_cons.mp a with e | a <;> rcases List.mem_cons.mp b with e' | b
        · cases e; cases e'; rfl
        · cases e; exact absurd (hl _ b) (Nat.lt_irrefl _)
        · cases e'; exact absurd (hl _ a) (Nat.lt_irrefl _)
        · exact hi _ _ _ a b
    · rename_i hk
      rw [if_neg hk] at h2
      exact cells_inj hl hi h1 h2

theorem newEnv_comp {M : Model} {A : Around} {E : Value → Shared → Prop} {s : Shared} {scope : Scope} {globals : Addr} {closure : List (Str × Addr)} {qual : Str} {func : Option Addr} {code : Value} {around : Env} {builtins : Addr} {Q : Env → Shared → Prop}
    (h : Q (newEnv scope s.heap.objs.size globals (cellsFrom (s.heap.objs.size + 1) scope.names closure) qual func code (some around) builtins)
      { s with heap := pushCells (s.heap.push { cls := .type "dict", data := .dict #[] }) scope.names }) :
    wpAny M A (newFunctionEnv scope globals closure [] qual func code (some around) builtins) Q E s := by
  simp only [newFunctionEnv, Option.isSome_some, if_true]
  refine wpAny_bind (wpAny_alloc ?_)
  refine wpAny_bind (wpAny_layCells _ (fun n k c => rfl) scope.names closure _ _ ?_)
  rw [show ({ s with heap := s.heap.push { cls := .type "dict", data := .dict #[] } } : Shared).heap.objs.size = s.heap.objs.size + 1 from Heap.size_push ..]
  rw [List.forIn_nil]
  exact wpAny_bind (wpAny_pure (wpAny_pure h))

/-- every name of the written scope, in the scope that runs -/
theorem lookup_relS {sc : Scope} : ∀ {names : List (Str × NameKind)} {x : Str} {k : NameKind},
    (names.map fun (n, k) => if (k == NameKind.free && sc.kind == .function && sc.names.lookup n == some .cell) then (n, NameKind.cell) else (n, k)).lookup x = some k →
    ∃ k', names.lookup x = some k' ∧ (k = k' ∨ (k' = .free ∧ k = .cell))
  | [], _, _, h => by simp at h
  | (n, k₀) :: r, x, k, h => by
    have ih := @lookup_relS sc r x k
    have h' : List.lookup x ((if (k₀ == NameKind.free && sc.kind == .function && sc.names.lookup n == some .cell) = true then (n, NameKind.cell) else (n, k₀)) :: (r.map _)) = some k := h
    cases hx : x == n with
    | true =>
      simp only [List.lookup_cons, hx]
      by_cases hc : (k₀ == NameKind.free && sc.kind == .function && sc.names.lookup n == some .cell) = true
      · rw [if_pos hc] at h'
        simp only [List.lookup_cons, hx] at h'
        cases h'
        simp only [Bool.and_eq_true, beq_iff_eq] at hc
        exact ⟨k₀, rfl, .inr ⟨hc.1.1, rfl⟩⟩
      · rw [if_neg hc] at h'
        simp only [List.lookup_cons, hx] at h'
        cases h'
        exact ⟨_, rfl, .inl rfl⟩
    | false =>
      simp only [List.lookup_cons, hx]
      by_cases hc : (k₀ == NameKind.free && sc.kind == .function && sc.names.lookup n == some .cell) = true
      · rw [if_pos hc] at h'
        simp only [List.lookup_cons, hx] at h'
        exact ih h'
      · rw [if_neg hc] at h'
        simp only [List.lookup_cons, hx] at h'
        exact ih h'



/-- the names of a comprehension's block: its own (with their places in N), or captured -/
structure BlkOk (N : List Str) (sc scope : Scope) (own : List (Str × Nat)) : Prop where
  kind : scope.kind = .function
  uniq : ∀ y ∈ scope.names, scope.names.lookup y.1 = some y.2
  ix : ∀ p ∈ own, N[p.2]? = some p.1
  free : ∀ y ∈ scope.names, y.2 = .free → sc.names.lookup y.1 = some .cell ∨ sc.names.lookup y.1 = some .free
  own : ∀ y ∈ scope.names, y.2 = .local ∨ y.2 = .cell → y.1 ∈ own.map (·.1) ∨ y.1 ∉ N
/-- the slots of the block's own names forgotten -/
def wipe (σ : St) : List Nat → St
  | [] => σ
  | v :: vs => (wipe σ vs).set v none
theorem wipe_length (σ : St) : ∀ vs : List Nat, (wipe σ vs).length = σ.length
  | [] => rfl
  | v :: vs => by unfold wipe; rw [List.length_set, wipe_length σ vs]
theorem wipe_some {σ : St} {i : Nat} {x : V} : ∀ {vs : List Nat}, (wipe σ vs)[i]? = some (some x) → σ[i]? = some (some x) ∧ i ∉ vs
  | [], h => ⟨h, by simp⟩
  | v :: vs, h => by
    unfold wipe at h
    by_cases hi : v = i
    · subst hi
      by_cases hv : v < (wipe σ vs).length
      · rw [List.getElem?_set_self hv] at h; cases h
      · rw [List.getElem?_eq_none (by simpa using hv)] at h; cases h
    · rw [List.getElem?_set_ne hi] at h
      obtain ⟨h1, h2⟩ := wipe_some h
      exact ⟨h1, by simp only [List.mem_cons, not_or]; exact ⟨fun e => hi e.symm, h2⟩⟩

/-- the context of a block that starts at s, its iterator's objects at fp -/
abbrev Cx.blk (X : Cx) (s : Shared) (H : Hp) (scope : Scope) (cenv : Env) (fp : List Addr) : Cx := { X with s_0 := s, H_0 := H, env := cenv, outer := X.stack, ex := fp, fn := fun x => scope.names.lookup x == some .cell, pn := [], xe := fun _ _ => False }
section
variable {X : Cx} {pins : List (Addr × Obj)} {σ : St} {H : Hp} {s : Shared}
theorem block_start {scope : Scope} {own : List (Str × Nat)} {fp : List Addr} (I : Inv X pins σ H s) (ok : BlkOk X.N X.env.scope scope own) (hN : X.N.Nodup) (hfp : ∀ b ∈ fp, FpOk X pins H b ∧ b < s.heap.objs.size) :
    Inv (X.blk s H scope (compEnvC scope (cellsFrom (s.heap.objs.size + 1) scope.names (cloFrom X.env.cells scope.names [])) s.heap.objs.size X.env) fp) [] (wipe σ (own.map (·.2))) H { s with heap := pushCells (s.heap.push { cls := .type "dict", data := .dict #[] }) scope.names } := by
  have hfree : ∀ y ∈ scope.names, y.2 = .free → ∃ c, X.env.cells.lookup y.1 = some c := fun y hy e => by
    rcases ok.free y hy e with k | k
    · exact I.ok.has _ (.inl k)
    · exact I.ok.has _ (.inr k)
  generalize hcenv : compEnvC scope (cellsFrom (s.heap.objs.size + 1) scope.names (cloFrom X.env.cells scope.names [])) s.heap.objs.size X.env = cenv
  have kp : ∀ b o, s.heap.get? b = some o → (pushCells (s.heap.push { cls := .type "dict", data := .dict #[] }) scope.names).get? b = some o := fun b o e => pushCells_keeps _ _ _ _ (Heap.get?_push_of_some _ e)
  have hL : cenv.locals = s.heap.objs.size := by rw [← hcenv]; rfl
  have hcl : cenv.cells = cellsFrom (s.heap.objs.size + 1) scope.names (cloFrom X.env.cells scope.names []) := by rw [← hcenv]; rfl
  have hsc : cenv.scope = relS scope X.env.scope := by rw [← hcenv]; rfl
  rw [← Heap.size_push s.heap { cls := .type "dict", data := .dict #[] }] at hcl
  have cm : ∀ {y c}, (y, c) ∈ cloFrom X.env.cells scope.names [] → X.env.cells.lookup y = some c ∧ c < s.heap.objs.size := fun {y c} hm => by
    rcases cloFrom_mem hm with hm | ⟨h1, rfl⟩
    · cases hm
    · obtain ⟨c, hc⟩ := hfree _ h1 rfl
      rw [hc]
      obtain ⟨w, z⟩ := I.cell _ _ hc
      exact ⟨rfl, z.lt⟩
  have mem : ∀ {y c}, cenv.cells.lookup y = some c → (X.env.cells.lookup y = some c ∧ c < s.heap.objs.size) ∨ (s.heap.objs.size + 1 ≤ c ∧ CellAt (pushCells (s.heap.push { cls := .type "dict", data := .dict #[] }) scope.names) c none) := fun {y c} e => by
    rw [hcl] at e
    rcases cells_mem (PySem.mem_of_lookup e) with hm | ⟨_, h2, h3⟩
    · exact .inl (cm hm)
    · rw [Heap.size_push] at h2; exact .inr ⟨h2, h3⟩
  have look : ∀ {y}, scope.names.lookup y = some .free → ∃ c, cenv.cells.lookup y = some c ∧ X.env.cells.lookup y = some c := fun {y} hl => by
    have hy : (y, NameKind.free) ∈ scope.names := PySem.mem_of_lookup hl
    obtain ⟨c', e'⟩ := mem_lookup (cells_acc (names := scope.names) (n := (s.heap.push { cls := .type "dict", data := .dict #[] }).objs.size) (cloFrom_has (cells := X.env.cells) (acc := []) hy))
    rw [← hcl] at e'
    refine ⟨c', e', ?_⟩
    rw [hcl] at e'
    rcases cells_mem (PySem.mem_of_lookup e') with hm | ⟨h1, _, _⟩
    · exact (cm hm).1
    · have := ok.uniq _ h1
      rw [hl] at this; cases this
  have okB : (X.blk s H scope cenv fp).Ok := by
    refine ⟨I.ok.mod, by show cenv.scope.kind = _; rw [hsc]; exact ok.kind, by show cenv.globals = _; rw [← hcenv]; exact I.ok.glob, by show cenv.builtins = _; rw [← hcenv]; exact I.ok.blt, by show s.heap.objs.size ≤ cenv.locals; rw [hL]; exact Nat.le_refl _,
      fun y z c e1 e2 => ?_, fun y hy => ?_, fun y c z e => ?_, I.ok.hd, I.ok.frames, .inl rfl, fun b hb => ⟨?_, fun y c e z => ?_⟩, I.bs, Nat.le_trans I.ok.bsz I.sz, fun b o e hb => ?_, fun b hb z => ?_, I.stack, I.stkFree⟩
    · have e1 : cenv.cells.lookup y = some c := e1
      have e2 : cenv.cells.lookup z = some c := e2
      rw [hcl] at e1 e2
      refine cells_inj (fun p hp => ?_) (fun y z c a b => I.ok.inj y z c (cm a).1 (cm b).1) (PySem.mem_of_lookup e1) (PySem.mem_of_lookup e2)
      rw [Heap.size_push]
      exact Nat.lt_succ_of_lt (cm (y := p.1) (c := p.2) hp).2
    · show ∃ c, cenv.cells.lookup y = some c
      have key : ∀ k, cenv.kindOf y = some k → (k = .cell ∨ k = .free) → ∃ c, cenv.cells.lookup y = some c := fun k hk hk' => by
        unfold Env.kindOf at hk
        rw [hsc] at hk
        obtain ⟨k', e, r⟩ := lookup_relS hk
        have : k' = .cell ∨ k' = .free := by
          rcases r with rfl | ⟨rfl, _⟩
          · exact hk'
          · exact .inr rfl
        rcases this with rfl | rfl
        · obtain ⟨c, hm⟩ := cells_has (n := (s.heap.push { cls := .type "dict", data := .dict #[] }).objs.size) (acc := cloFrom X.env.cells scope.names []) (PySem.mem_of_lookup e)
          obtain ⟨c', e'⟩ := mem_lookup hm
          exact ⟨c', by rw [hcl]; exact e'⟩
        · obtain ⟨c, h1, _⟩ := look e
          exact ⟨c, h1⟩
      rcases hy with hy | hy
      · exact key _ hy (.inl rfl)
      · exact key _ hy (.inr rfl)
    · have z : (scope.names.lookup y == some NameKind.cell) = true := z
      have z : scope.names.lookup y = some .cell := by simpa using z
      have e : cenv.cells.lookup y = some c := e
      rw [hcl] at e
      rcases cells_mem (PySem.mem_of_lookup e) with hm | ⟨_, h2, _⟩
      · rcases cloFrom_mem hm with hm | ⟨h1, _⟩
        · cases hm
        · have q := ok.uniq _ h1
          rw [z] at q; cases q
      · rw [Heap.size_push] at h2
        exact Nat.le_of_succ_le h2
    · show b ≠ cenv.locals
      rw [hL]; exact Nat.ne_of_lt (hfp b hb).2
    · have e : cenv.cells.lookup y = some c := e
      rcases mem e with ⟨h1, _⟩ | ⟨h1, _⟩
      · exact (hfp b hb).1.2.2.2.2.1 y c h1 z
      · have h2 : s.heap.objs.size + 1 ≤ b := by rw [← z]; exact h1
        exact absurd (Nat.lt_of_lt_of_le (hfp b hb).2 (Nat.le_of_succ_le h2)) (Nat.lt_irrefl _)
    · rcases (hfp b hb).1.2.2.2.1 with z | z
      · exact I.ok.noex b o e z
      · exact absurd (Nat.lt_of_lt_of_le (Heap.lt_size e) (Nat.le_trans I.ok.bsz z)) (Nat.lt_irrefl _)
    · rcases List.mem_cons.mp (I.stkSub b z) with z | z
      · exact (hfp b hb).1.2.1 z
      · exact (hfp b hb).1.2.2.1 z
  refine ⟨okB, rfl, I.bare, Un.kept kp, ⟨fun _ => none, ?_, fun i y av e1 e2 e3 => ?_⟩, fun y c e => ?_, ?_, fun y c e => ?_, fun p hp => ?_, I.hok.kept kp, by rw [wipe_length]; exact I.len⟩
  · show Heap.Ns _ cenv.locals _
    rw [hL]
    exact Heap.Ns.keeps (Heap.Ns.new ..) fun b o e => pushCells_keeps _ _ _ _ e
  · obtain ⟨e2, hne⟩ := wipe_some e2
    have hfr : scope.names.lookup y = some .free ∧ (cenv.kindOf y = some .cell ∨ cenv.kindOf y = some .free) := by
      have key : ∀ k, cenv.scope.names.lookup y = some k → k = .local ∨ k = .cell ∨ k = .free → scope.names.lookup y = some .free ∧ (cenv.kindOf y = some .cell ∨ cenv.kindOf y = some .free) := fun k hk hk' => by
        have hk0 := hk
        rw [hsc] at hk
        obtain ⟨k', e, r⟩ := lookup_relS hk
        have no : ¬ (k' = .local ∨ k' = .cell) := fun hh => by
          rcases ok.own _ (PySem.mem_of_lookup e) hh with e' | e'
          · obtain ⟨p, hp, hpy⟩ := List.mem_map.mp e'
            have e3 := ok.ix p hp
            have : p.1 = y := hpy
            rw [this] at e3
            exact hne (List.mem_map.mpr ⟨p, hp, nodup_ix hN e3 e1⟩)
          · exact e' (List.mem_of_getElem? e1)
        rcases r with rfl | ⟨rfl, rfl⟩
        · rcases hk' with rfl | rfl | rfl
          · exact absurd (.inl rfl) no
          · exact absurd (.inr rfl) no
          · exact ⟨e, .inr hk0⟩
        · exact ⟨e, .inl hk0⟩
      have e3 : Vis cenv.scope y := e3
      rcases e3 with e3 | e3 | e3
      · exact key _ e3 (.inl rfl)
      · exact key _ e3 (.inr (.inl rfl))
      · exact key _ e3 (.inr (.inr rfl))
    obtain ⟨m, hn, hl⟩ := I.loc
    have hvis : Vis X.env.scope y := (ok.free _ (PySem.mem_of_lookup hfr.1) rfl).elim (fun k => .inr (.inl k)) (fun k => .inr (.inr k))
    obtain ⟨w, r, q⟩ := hl i y av e1 e2 hvis
    refine ⟨w, r, .inr ⟨hfr.2, ?_⟩⟩
    obtain ⟨c, h1, h2⟩ := look hfr.1
    rcases q with ⟨k, _⟩ | ⟨_, c', e', z⟩
    · have k : X.env.scope.names.lookup y = some .local := k
      rcases ok.free _ (PySem.mem_of_lookup hfr.1) rfl with k' | k' <;> rw [show X.env.scope.names.lookup y = _ from k'] at k <;> cases k
    · rw [h2] at e'; cases e'
      exact ⟨c, h1, z.keeps kp⟩
  · have e : cenv.cells.lookup y = some c := e
    rcases mem e with ⟨h1, _⟩ | ⟨_, z⟩
    · obtain ⟨w, z⟩ := I.cell y c h1
      exact ⟨w, z.keeps kp⟩
    · exact ⟨_, z⟩
  · show H cenv.locals = none
    rw [hL]; exact I.hok.fresh (Nat.le_refl _)
  · have e : cenv.cells.lookup y = some c := e
    rcases mem e with ⟨h1, _⟩ | ⟨h1, _⟩
    · exact I.freeC y c h1
    · exact I.hok.fresh (Nat.le_of_succ_le h1)
  · exact absurd (show p ∈ ([] : List (Addr × Obj)) ++ [] from hp) (by simp)

/-- an item appended to a tracked list -/
theorem app_ok {E : Value → Shared → Prop} {D : Addr} {xs : List V} {y : V} {v : Value} {Q : Value → Shared → Prop} (I : Inv X pins σ H s) (hD : H D = some (.lst xs)) (hz : xs.length < sizeLine) (r : RelV y v)
    (h : ∀ s', Inv X pins σ (upd H D (.lst (xs ++ [y]))) s' → Q .none s') : wpAny (model X.prog X.w) X.A (call (.builtin "list.append") [.ref D, v]) Q E s := by
  obtain ⟨hz', its, n, ri, e⟩ := I.hok D _ hD
  have hl := ri.length
  refine append_at (hsz := by rw [List.size_toArray]; omega) e fun h' sb ho' => ?_
  refine h { s with heap := h' } (I.write (t' := s.toks) (by rw [hD]; trivial) (.inl rfl) (fun b u hb q => (sb.2 b hb).trans q) ⟨_, ho'⟩ ⟨by rw [List.length_append]; exact hz, its ++ [v], n + 1, ri.append (.cons r .nil), ?_⟩)
  rw [ho']
  simp

/-- a clause's tests -/
def PTs (X : Cx) (ifs : List Expr) (t : TT) : Prop :=
  ∀ (pins : List (Addr × Obj)) (s : Shared) (σ : St) (H : Hp) (Q : Bool → Hp → Prop), Inv X pins σ H s → t σ H Q →
    wpAny (model X.prog X.w) X.A (forIn ifs true fun c r => if r = true then do let ok ← isTrue c X.env (eval c X.env); pure (ForInStep.yield ok) else pure (ForInStep.yield r)) (TP X pins σ Q) X.xe s
def tYes : TT := fun _ H Q => Q true H
theorem pts_nil : PTs X [] tYes := fun _ _ _ H _ I h => wpAny_tests_nil ⟨H, I, h⟩
end

theorem thnF {α : Type} {t : Sem α} {Q Q' : α → Shared → Prop} {M : Model} {A : Around} {E : Value → Shared → Prop} {s : Shared} (h : wpAny M A t Q (fun _ _ => False) s) (hQ : ∀ a s, Q a s → Q' a s) : wpAny M A t Q' E s := wpAny_mono h hQ fun _ _ z => False.elim z

/-- the loop of a list comprehension's block, the target of any form (codeAny_compLoop_tests asks a target that no tuple goes to; statement and proof follow it, PyProof/CompMap.lean:41-61, with the step letOwnedTupleGo kept) -/
theorem compLoop_any {prog : Program} {w : World} {A : Around} {R : Result → Shared → Prop} {s : Shared} {elt target iter : Expr} {ifs : List Expr} {scope : Scope} {pos : Pos} {it acc : Value} {env : Env} (I : Nat → Shared → Prop)
    (turn : ∀ n s, I n s → wpAny (model prog w) A (pyNext it) (fun r s₁ => match r with
      | none => R (.ok .next) s₁
      | some v => wpAny (model prog w) A (letOwnedTupleGo target it v) (fun _ s₁' => wpAny (model prog w) A (assign target env v) (fun _ s₂ =>
          wpAny (model prog w) A (forIn ifs true fun c r => if r = true then do let ok ← isTrue c env (eval c env); pure (ForInStep.yield ok) else pure (ForInStep.yield r)) (fun ok s₃ =>
            if ok = true then wpAny (model prog w) A (eval elt env) (fun x s₄ =>
              wpAny (model prog w) A (call (.builtin "list.append") [acc, x]) (fun _ s₅ => ∃ m, m < n ∧ I m s₅) (notedBy (model prog w) A env fun e s' => R (.error e) s') s₄) (notedBy (model prog w) A env fun e s' => R (.error e) s') s₃
            else ∃ m, m < n ∧ I m s₃) (notedBy (model prog w) A env fun e s' => R (.error e) s') s₂) (notedBy (model prog w) A env fun e s' => R (.error e) s') s₁') (notedBy (model prog w) A env fun e s' => R (.error e) s') s₁) (notedBy (model prog w) A env fun e s' => R (.error e) s') s)
    (n : Nat) (h : I n s) :
    codeAny (model prog w) A (.compLoop (.ListComp elt [⟨target, iter, ifs, 0⟩] scope pos) 0 it acc env) R s := by
  refine codeAny_loop rfl I (fun n s hI => ?_) n h
  show wpAny _ A ((compTurn (.ListComp elt [⟨target, iter, ifs, 0⟩] scope pos) 0 it acc env).onRaise (fun x => do noteFrame x env; theTreesLotGoes x)) _ _ s
  refine wpAny_noted ?_
  rw [compTurn_list]
  refine wpAny_bind (wpAny_standAt (wpAny_bind (wpAny_mono (turn n s hI) (fun r s₁ h₁ => ?_) fun _ _ h' => h')))
  cases r with
  | none => exact wpAny_pure h₁
  | some v =>
    refine wpAny_bind (wpAny_mono h₁ (fun _ s₁' h₁' => ?_) fun _ _ h' => h')
    refine wpAny_bind (wpAny_mono h₁' (fun _ s₂ h₂ => wpAny_bind (wpAny_mono h₂ (fun ok s₃ h₃ => ?_) fun _ _ h' => h')) fun _ _ h' => h')
    cases ok with
    | false => exact wpAny_pure ⟨rfl, h₃⟩
    | true =>
      exact wpAny_bind (wpAny_bind (wpAny_mono h₃ (fun x s₄ h₄ => wpAny_bind (wpAny_mono h₄ (fun _ s₅ h₅ => wpAny_pure (wpAny_pure ⟨rfl, h₅⟩)) fun _ _ h' => h')) fun _ _ h' => h'))

section
variable {X : Cx}
/-- [elt for target in iter if ..]: D the new list; W by the turn and a measure, Nx what a turn is to reach -/
def tLc (wi : TI) (g : TG) (tt : TT) (te : TE) (vs : List Nat) : TE := fun σ H Q => wi σ H fun J H1 => ∀ D, H1 D = none → ∃ W : Nat → Nat → Hp → Prop, (∃ m, W 0 m (upd H1 D (.lst []))) ∧ ∀ i m H, W i m H →
  (J.stop i H ∧ Q (.ref D) H) ∨ (J.go i H ∧ ∃ Nx : Hp → Prop, (∀ H', Nx H' → ∃ m', m' < m ∧ W (i + 1) m' H') ∧ ∀ x H', J.yld i H x H' → g x (wipe σ vs) H' fun σ2 H2 => wipe σ2 vs = wipe σ vs ∧ tt σ2 H2 fun b H3 =>
    if b = true then te σ2 H3 fun y H4 => ∃ acc, H4 D = some (.lst acc) ∧ acc.length < sizeLine ∧ Nx (upd H4 D (.lst (acc ++ [y]))) else Nx H3)
theorem lc_core {pins : List (Addr × Obj)} {s : Shared} {σ : St} {H : Hp} {Q : VK} {elt tg iter : Expr} {ifs : List Expr} {scope : Scope} {own : List (Str × Nat)} {pos pos' : Pos} {wi : TI} {g : TG} {tt : TT} {te : TE} {use : Option (Value → Sem Unit)} {Qf : Value → Shared → Prop}
    (hc : X.calm = true) (hN : X.N.Nodup) (I : Inv X pins σ H s) (hi : PI X tg iter wi) (ok : BlkOk X.N X.env.scope scope own)
    (hg : ∀ (s : Shared) (H : Hp) (C : Addr) (cl : List (Str × Addr)) (fp : List Addr), PG (X.blk s H scope (compEnvC scope cl C X.env) fp) tg g) (ht : ∀ (s : Shared) (H : Hp) (C : Addr) (cl : List (Str × Addr)) (fp : List Addr), PTs (X.blk s H scope (compEnvC scope cl C X.env) fp) ifs tt)
    (he : ∀ (s : Shared) (H : Hp) (C : Addr) (cl : List (Str × Addr)) (fp : List Addr), PE (X.blk s H scope (compEnvC scope cl C X.env) fp) elt te) (hs : ∀ x, foldedSetIterable iter X.env x = pure x)
    (h : tLc wi g tt te (own.map (·.2)) σ H Q)
    (hRR : ∀ D C s' m H', Inv X pins σ H' s' → Q (.ref D) H' → s'.heap.Ns C m → FpOk X pins H' C → compPost (model X.prog X.w) X.A X.xe use Qf (.ref D) C (.ok .next) s') :
    wpAny (model X.prog X.w) X.A (comprehension (.ListComp elt [⟨tg, iter, ifs, 0⟩] scope pos) scope X.env pos' (newList []) false (eval iter X.env) use) Qf X.xe s := by
  have hfree : ∀ y ∈ scope.names, y.2 = .free → ∃ c, X.env.cells.lookup y.1 = some c := fun y hy e => by
    rcases ok.free y hy e with k | k
    · exact I.ok.has _ (.inl k)
    · exact I.ok.has _ (.inr k)
  refine wpAny_comprehension_free (use := use) rfl hs (closure_ok hfree) ok.kind (fun y hy e => by rw [ok.uniq y hy, e])
    (thn (hi pins s σ H _ I h) fun xv s1 hx => thn hx fun itv s2 h2 => ?_)
  obtain ⟨it, fp, tn, J, H2, e, I2, T, st2, f2, q⟩ := h2
  subst e
  refine wpAny_newObj_type (newEnv_comp ?_) (by show 0 ≤ sizeLine; decide)
  generalize hD : s2.heap.objs.size = D
  have hDn : H2 D = none := I2.hok.fresh (Nat.le_of_eq hD)
  obtain ⟨W, ⟨m0, w0⟩, turn⟩ := q D hDn
  -- the new list
  generalize hs3 : ({ s2 with heap := s2.heap.push { cls := .type "list", data := .seq ([] : List Value).toArray } } : Shared) = s3
  have I3 : Inv X pins σ (upd H2 D (.lst [])) s3 := by
    rw [← hs3]
    refine I2.laid (t' := s2.toks) (fun b o e => Heap.get?_push_of_some _ e) (Nat.le_of_eq hD) ⟨Nat.zero_le _, [], 0, .nil, ?_⟩
    rw [← hD]
    exact Heap.get?_push_size _ rfl
  have h3 : s3.heap = s2.heap.push { cls := .type "list", data := .seq ([] : List Value).toArray } := by rw [← hs3]
  have sz : ∀ b ∈ fp, b < s2.heap.objs.size := fun b hb => by
    obtain ⟨o, e, _⟩ := T.obj _ _ st2 b hb
    exact Heap.lt_size e
  have f3 : ∀ b ∈ fp, FpOk X pins (upd H2 D (.lst [])) b ∧ b < s3.heap.objs.size := fun b hb => by
    have hlt := sz b hb
    refine ⟨⟨?_, (f2 b hb).2⟩, by rw [h3, Heap.size_push]; exact Nat.lt_succ_of_lt hlt⟩
    rw [upd_ne (by rw [← hD]; exact Nat.ne_of_lt hlt)]
    exact (f2 b hb).1
  have st3 : tn 0 s3.heap := T.keep _ _ _ st2 fun b _ o e => by rw [h3]; exact Heap.get?_push_of_some _ e
  have I4 := block_start I3 ok hN f3
  have pg := hg s3 (upd H2 D (.lst [])) s3.heap.objs.size (cellsFrom (s3.heap.objs.size + 1) scope.names (cloFrom X.env.cells scope.names [])) fp
  have pt := ht s3 (upd H2 D (.lst [])) s3.heap.objs.size (cellsFrom (s3.heap.objs.size + 1) scope.names (cloFrom X.env.cells scope.names [])) fp
  have pe := he s3 (upd H2 D (.lst [])) s3.heap.objs.size (cellsFrom (s3.heap.objs.size + 1) scope.names (cloFrom X.env.cells scope.names [])) fp
  show codeAny _ _ (.compStart (.ListComp elt [⟨tg, iter, ifs, 0⟩] scope pos) 0 (.ref it) (.ref D) (compEnvC scope (cellsFrom (s3.heap.objs.size + 1) scope.names (cloFrom X.env.cells scope.names [])) s3.heap.objs.size X.env)) (compPost (model X.prog X.w) X.A X.xe use Qf (.ref D) s3.heap.objs.size) { s3 with heap := pushCells (s3.heap.push { cls := .type "dict", data := .dict #[] }) scope.names }
  have nfp : ∀ b ∈ fp, (upd H2 D (.lst [])) b = none := fun b hb => (f3 b hb).1.1
  generalize hce : compEnvC scope (cellsFrom (s3.heap.objs.size + 1) scope.names (cloFrom X.env.cells scope.names [])) s3.heap.objs.size X.env = ce at I4 pg pt pe ⊢
  have cL : ce.locals = s3.heap.objs.size := by subst hce; rfl
  generalize hH3 : upd H2 D (.lst []) = H3 at I3 I4 pg pt pe w0 nfp f3
  generalize hs4 : ({ s3 with heap := pushCells (s3.heap.push { cls := .type "dict", data := .dict #[] }) scope.names } : Shared) = s4 at I4 ⊢
  have st4 : tn 0 s4.heap := T.keep _ _ _ st3 fun b _ o e => by rw [← hs4]; exact pushCells_keeps _ _ _ _ (Heap.get?_push_of_some _ e)
  have stat : ∀ {σ' : St} {H' : Hp} {s' : Shared}, Inv (X.blk s3 H3 scope ce fp) [] σ' H' s' → (∀ b ∈ fp, H' b = none) → ∀ b ∈ fp, FpOk (X.blk s3 H3 scope ce fp) [] H' b := fun {σ' H' s'} I' hn b hb =>
    ⟨hn b hb, (I'.ok.exf b hb).1, I'.ok.exfs b hb, .inl hb, fun x c e => (I'.ok.exf b hb).2 x c e, fun p hp => absurd (show p ∈ ([] : List (Addr × Obj)) ++ [] from hp) (by simp)⟩
  have loop : codeAny (model X.prog X.w) X.A (.compLoop (.ListComp elt [⟨tg, iter, ifs, 0⟩] scope pos) 0 (.ref it) (.ref D) ce) (compPost (model X.prog X.w) X.A X.xe use Qf (.ref D) s3.heap.objs.size) s4 := by
    refine compLoop_any (fun n s' => ∃ i H', Inv (X.blk s3 H3 scope ce fp) [] (wipe σ (own.map (·.2))) H' s' ∧ tn i s'.heap ∧ (∀ b ∈ fp, H' b = none) ∧ W i n H') ?_ m0 ⟨0, H3, I4, st4, nfp, w0⟩
    rintro n s5 ⟨i, H5, I5, st5, n5, w5⟩
    rcases turn i n H5 w5 with ⟨stop, qq⟩ | ⟨go, Nx, hNx, step⟩
    · have td := T.done (X.blk s3 H3 scope ce fp) rfl rfl rfl hc i [] s5 _ H5 (fun _ _ => False) I5 (stat I5 n5) st5 stop
      refine thnF td fun r s6 ⟨hr, I6⟩ => ?_
      subst hr
      -- back in the def's context
      have I7 : Inv X pins σ H5 s6 := I3.call' (ch := fp) I6.os I6.base I6.hok I6.bare fun b hb => ⟨(f3 b hb).1.2.2.2.1, (f3 b hb).1.2.1, (f3 b hb).1.2.2.2.2.1, (f3 b hb).1.2.2.2.2.2⟩
      have nC : H5 s3.heap.objs.size = none := by
        have z : H5 ce.locals = none := I6.free
        rw [cL] at z
        exact z
      obtain ⟨m, hn, _⟩ := I6.loc
      have hn : s6.heap.Ns ce.locals m := hn
      rw [cL] at hn
      exact hRR D s3.heap.objs.size s6 m H5 I7 qq hn (I3.fpOk (Nat.le_refl _) nC)
    · have ti := T.item (X.blk s3 H3 scope ce fp) rfl rfl rfl hc i [] s5 _ H5 (fun _ _ => False) I5 (stat I5 n5) st5 go
      refine thnF ti fun r s6 ⟨u, hr, h6⟩ => ?_
      subst hr
      refine thnF h6 fun _ s7 ⟨x, H7, I7, r7, y7, st7, n7⟩ => ?_
      have I7' := I7.pinned (stat I7 n7) (T.obj _ _ st7)
      refine thnF (pg _ s7 _ H7 x u _ I7' r7 (step x H7 y7)) fun _ s8 ⟨σ8, H8, I8, hw8, q8⟩ => ?_
      refine thnF (pt _ s8 σ8 H8 _ I8 q8) fun b s9 ⟨H9, I9, q9⟩ => ?_
      -- the turn's end
      have fin : ∀ {s' : Shared} {H' : Hp}, Inv (X.blk s3 H3 scope ce fp) ([] ++ pinsAt fp s7.heap) σ8 H' s' → Nx H' → ∃ m, m < n ∧ ∃ i H', Inv (X.blk s3 H3 scope ce fp) [] (wipe σ (own.map (·.2))) H' s' ∧ tn i s'.heap ∧ (∀ b ∈ fp, H' b = none) ∧ W i m H' := fun {s' H'} I' nx => by
        obtain ⟨m', hm, w'⟩ := hNx H' nx
        have pin' : ∀ b ∈ fp, ∀ o, s7.heap.get? b = some o → s'.heap.get? b = some o ∧ H' b = none := fun b hb o e =>
          let z := I'.pin (b, o) (List.mem_append_right _ (List.mem_append_right _ (mem_pinsAt hb e)))
          ⟨z.1, z.2.1⟩
        have hl : (wipe σ (own.map (·.2))).length = σ8.length := by rw [← hw8, wipe_length]
        refine ⟨m', hm, i + 1, H', (I'.unpinned (pins := [])).weak hl (fun j v e => ?_), T.keep _ _ _ st7 fun b hb o e => (pin' b hb o e).1, fun b hb => ?_, w'⟩
        · rw [← hw8] at e
          exact (wipe_some e).1
        · obtain ⟨o, e, _⟩ := T.obj _ _ st7 b hb
          exact (pin' b hb o e).2
      cases b with
      | false =>
        simp only [Bool.false_eq_true, if_false] at q9 ⊢
        exact fin I9 q9
      | true =>
        simp only [if_true] at q9 ⊢
        refine thnF (pe _ s9 σ8 H9 _ I9 q9) fun z s10 ⟨yv, H10, I10, r10, acc, hD10, hz10, nx⟩ => ?_
        exact app_ok (X := X.blk s3 H3 scope ce fp) I10 hD10 hz10 r10 fun s11 I11 => fin I11 nx
  exact codeAny_compStart_list loop (T.self X.A 0 _ _ _ st4 loop)
/-- as a value -/
theorem pe_lc {elt tg iter : Expr} {ifs : List Expr} {scope : Scope} {own : List (Str × Nat)} {pos : Pos} {wi : TI} {g : TG} {tt : TT} {te : TE} (hc : X.calm = true) (hN : X.N.Nodup) (hi : PI X tg iter wi) (ok : BlkOk X.N X.env.scope scope own)
    (hg : ∀ (s : Shared) (H : Hp) (C : Addr) (cl : List (Str × Addr)) (fp : List Addr), PG (X.blk s H scope (compEnvC scope cl C X.env) fp) tg g) (ht : ∀ (s : Shared) (H : Hp) (C : Addr) (cl : List (Str × Addr)) (fp : List Addr), PTs (X.blk s H scope (compEnvC scope cl C X.env) fp) ifs tt)
    (he : ∀ (s : Shared) (H : Hp) (C : Addr) (cl : List (Str × Addr)) (fp : List Addr), PE (X.blk s H scope (compEnvC scope cl C X.env) fp) elt te) (hs : ∀ x, foldedSetIterable iter X.env x = pure x := by intro _; rfl) :
    PE X (.ListComp elt [⟨tg, iter, ifs, 0⟩] scope pos) (tLc wi g tt te (own.map (·.2))) := by
  intro pins s σ H Q I h
  rw [eval_ListComp]
  refine lc_core hc hN I hi ok hg ht he hs h fun D C s' m H' I' q hn f => ⟨m, hn, fun h'' sb => ?_⟩
  obtain ⟨f0, f1, f2, f3, f4, f5⟩ := f
  exact ⟨.ref D, H', I'.turned (t' := s'.toks) (fun b o hb e => (sb.2 b hb).trans e) f0 f1 f3 f4 f5, rfl, q⟩
/-- name = [..] on one line, the name a local -/
theorem ps_setLc {i : Nat} {y : Str} {py : Pos} {elt tg iter : Expr} {ifs : List Expr} {scope : Scope} {own : List (Str × Nat)} {pos spos : Pos} {wi : TI} {g : TG} {tt : TT} {te : TE} (hc : X.calm = true) (hN : X.N.Nodup) (hy : X.N[i]? = some y) (hyl : X.env.scope.names.lookup y = some .local)
    (hsw : swapsWith (.ListComp elt [⟨tg, iter, ifs, 0⟩] scope pos) (some (.Name y py)) spos.line X.env = pure true) (hi : PI X tg iter wi) (ok : BlkOk X.N X.env.scope scope own)
    (hg : ∀ (s : Shared) (H : Hp) (C : Addr) (cl : List (Str × Addr)) (fp : List Addr), PG (X.blk s H scope (compEnvC scope cl C X.env) fp) tg g) (ht : ∀ (s : Shared) (H : Hp) (C : Addr) (cl : List (Str × Addr)) (fp : List Addr), PTs (X.blk s H scope (compEnvC scope cl C X.env) fp) ifs tt)
    (he : ∀ (s : Shared) (H : Hp) (C : Addr) (cl : List (Str × Addr)) (fp : List Addr), PE (X.blk s H scope (compEnvC scope cl C X.env) fp) elt te) (hs : ∀ x, foldedSetIterable iter X.env x = pure x := by intro _; rfl) :
    PS X (.Assign [.Name y py] (.ListComp elt [⟨tg, iter, ifs, 0⟩] scope pos) spos) (tAsg (tLc wi g tt te (own.map (·.2))) (gName i)) := by
  intro pins s σ H D I h
  rw [exec_Assign_Name_used _ _ _ _ hsw]
  refine wpAny_bind (wpAny_standAt (wpAny_bind ?_))
  show wpAny _ X.A (do let _ ← comprehension (.ListComp elt [⟨tg, iter, ifs, 0⟩] scope pos) scope X.env (firstIterPos [⟨tg, iter, ifs, 0⟩] pos) (newList []) false (eval iter X.env) (some (assign (.Name y py) X.env))) _ _ s
  have h : tLc wi g tt te (own.map (·.2)) σ H (fun x H1 => gName i x σ H1 D.nx) := h
  refine wpAny_bind (thn (lc_core (Qf := fun _ s' => SP X pins D .next s') hc hN I hi ok hg ht he hs h fun L C s' m H' I' q hn f => ?_) fun _ s' hq => wpAny_pure (wpAny_pure hq))
  show wpAny _ _ (assign (.Name y py) X.env (.ref L)) _ _ _
  refine wpAny_assign_Name (store_ok2 (v := V.ref L) I' hN hy (.inl hyl) rfl (fun s2 I2 ⟨a, sb, ha⟩ => ?_) (.inr hyl))
  obtain ⟨f0, f1, f2, f3, f4, f5⟩ := f
  have haC : C ≠ a := by
    rcases ha with z | z
    · rw [z]; exact f1
    · exact fun e => f4 y a z e.symm
  refine ⟨m, hn.sameBut sb haC, fun h3 sb3 => ?_⟩
  exact ⟨_, H', I2.turned (t' := s2.toks) (fun b o hb e => (sb3.2 b hb).trans e) f0 f1 f3 f4 f5, q⟩
theorem sw_true {elt : Expr} {gs : List Comprehension} {scope : Scope} {pos py : Pos} {y : Str} {l : Nat} {env : Env} (hk : env.scope.kind = .function) (hy : env.scope.names.lookup y = some .local) (hl : (py.line == pos.line) = true)
    (ha : (scope.names.any fun (n, k) => n == y && (k == .local || k == .cell)) = false) : swapsWith (.ListComp elt gs scope pos) (some (.Name y py)) l env = pure true := by
  have ky : env.kindOf y = some .local := hy
  have hb : env.blockKind = .function := by unfold Env.blockKind; rw [hk]; rfl
  unfold swapsWith
  simp only [hb, ky, ha, Expr.pos, hl]
  rfl
end

/-! ### the forms one uses -/
/-- over a range: Pv by the turn and the heap (the new list at D within) -/
theorem lc_range {lo : Int} {n : Nat} {g : TG} {tt : TT} {te : TE} {vs : List Nat} {σ : St} {H1 : Hp} {D : Addr} {Qd : Hp → Prop} (Pv : Nat → Hp → Prop) (h0 : Pv 0 (upd H1 D (.lst [])))
    (hs : ∀ i H, i < n → Pv i H → g (.int (lo + i)) (wipe σ vs) H fun σ2 H2 => wipe σ2 vs = wipe σ vs ∧ tt σ2 H2 fun b H3 =>
      if b = true then te σ2 H3 fun y H4 => ∃ acc, H4 D = some (.lst acc) ∧ acc.length < sizeLine ∧ Pv (i + 1) (upd H4 D (.lst (acc ++ [y]))) else Pv (i + 1) H3) (hd : ∀ H, Pv n H → Qd H) :
    ∃ W : Nat → Nat → Hp → Prop, (∃ m, W 0 m (upd H1 D (.lst []))) ∧ ∀ i m H, W i m H →
      ((Itr lo n).stop i H ∧ Qd H) ∨ ((Itr lo n).go i H ∧ ∃ Nx : Hp → Prop, (∀ H', Nx H' → ∃ m', m' < m ∧ W (i + 1) m' H') ∧ ∀ x H', (Itr lo n).yld i H x H' → g x (wipe σ vs) H' fun σ2 H2 => wipe σ2 vs = wipe σ vs ∧ tt σ2 H2 fun b H3 =>
        if b = true then te σ2 H3 fun y H4 => ∃ acc, H4 D = some (.lst acc) ∧ acc.length < sizeLine ∧ Nx (upd H4 D (.lst (acc ++ [y]))) else Nx H3) := by
  refine ⟨fun i m H => m = n - i ∧ i ≤ n ∧ Pv i H, ⟨n, by simp, Nat.zero_le _, h0⟩, ?_⟩
  rintro i m H ⟨rfl, hi, p⟩
  by_cases hlt : i < n
  · refine .inr ⟨hlt, Pv (i + 1), fun H' p' => ⟨n - (i + 1), by omega, rfl, hlt, p'⟩, fun x H' y => ?_⟩
    obtain ⟨e, y⟩ := y
    subst e y
    exact hs i _ hlt p
  · have e : i = n := by omega
    subst e
    exact .inl ⟨Nat.le_refl _, hd H p⟩
/-- over a list that the block leaves as it is -/
theorem lc_list {K : PySem.W.Frag} {a : Addr} {xs : List V} {g : TG} {tt : TT} {te : TE} {vs : List Nat} {σ : St} {H1 : Hp} {D : Addr} {Qd : Hp → Prop} (Pv : Nat → Hp → Prop) (h0 : Pv 0 (upd H1 D (.lst []))) (hl : ∀ i H, i ≤ xs.length → Pv i H → SqL K H a xs)
    (hs : ∀ i x H, xs[i]? = some x → Pv i H → g x (wipe σ vs) H fun σ2 H2 => wipe σ2 vs = wipe σ vs ∧ tt σ2 H2 fun b H3 =>
      if b = true then te σ2 H3 fun y H4 => ∃ acc, H4 D = some (.lst acc) ∧ acc.length < sizeLine ∧ Pv (i + 1) (upd H4 D (.lst (acc ++ [y]))) else Pv (i + 1) H3) (hd : ∀ H, Pv xs.length H → Qd H) :
    ∃ W : Nat → Nat → Hp → Prop, (∃ m, W 0 m (upd H1 D (.lst []))) ∧ ∀ i m H, W i m H →
      ((Itl K a).stop i H ∧ Qd H) ∨ ((Itl K a).go i H ∧ ∃ Nx : Hp → Prop, (∀ H', Nx H' → ∃ m', m' < m ∧ W (i + 1) m' H') ∧ ∀ x H', (Itl K a).yld i H x H' → g x (wipe σ vs) H' fun σ2 H2 => wipe σ2 vs = wipe σ vs ∧ tt σ2 H2 fun b H3 =>
        if b = true then te σ2 H3 fun y H4 => ∃ acc, H4 D = some (.lst acc) ∧ acc.length < sizeLine ∧ Nx (upd H4 D (.lst (acc ++ [y]))) else Nx H3) := by
  refine ⟨fun i m H => m = xs.length - i ∧ i ≤ xs.length ∧ Pv i H, ⟨xs.length, by simp, Nat.zero_le _, h0⟩, ?_⟩
  rintro i m H ⟨rfl, hi, p⟩
  have q := hl i H hi p
  by_cases hlt : i < xs.length
  · refine .inr ⟨⟨xs, xs[i], q, by simp [hlt]⟩, Pv (i + 1), fun H' p' => ⟨xs.length - (i + 1), by omega, rfl, hlt, p'⟩, fun x H' y => ?_⟩
    obtain ⟨e, y⟩ := y
    subst e
    exact hs i x _ (y xs q) p
  · have e : i = xs.length := by omega
    subst e
    exact .inl ⟨⟨xs, q, Nat.le_refl _⟩, hd H p⟩
def blkC (N : List Str) (sc scope : Scope) (own : List (Str × Nat)) : Bool :=
  (match scope.kind with | .function => true | _ => false) && (scope.names.all fun y => decide (scope.names.lookup y.1 = some y.2)) && (own.all fun p => decide (N[p.2]? = some p.1)) &&
    (scope.names.all fun y => match y.2 with
      | .free => (match sc.names.lookup y.1 with | some .cell => true | some .free => true | _ => false)
      | .local => decide (y.1 ∈ own.map (·.1)) || decide (y.1 ∉ N)
      | .cell => decide (y.1 ∈ own.map (·.1)) || decide (y.1 ∉ N)
      | _ => true)
theorem blkOk_by {N : List Str} {sc scope : Scope} {own : List (Str × Nat)} (h : blkC N sc scope own = true) : BlkOk N sc scope own := by
  unfold blkC at h
  simp only [Bool.and_eq_true, List.all_eq_true, decide_eq_true_eq] at h
  obtain ⟨⟨⟨h1, h2⟩, h3⟩, h4⟩ := h
  refine ⟨?_, h2, h3, fun y hy e => ?_, fun y hy e => ?_⟩
  · split at h1
    · assumption
    · cases h1
  · have q := h4 y hy
    simp only [e] at q
    split at q <;> first | exact .inl (by assumption) | exact .inr (by assumption) | cases q
  · have q := h4 y hy
    rcases e with e | e <;> (simp only [e, Bool.or_eq_true, decide_eq_true_eq] at q; exact q)
end L2

namespace L2
open PySem PySem.Spec PyProof.Rows


section
variable {prog : Program} {w : World} {A : Around} {R : Result → Shared → Prop} {s : Shared} {elt t0 i0 t1 i1 : Expr} {ifs0 ifs1 : List Expr} {scope : Scope} {pos : Pos} {it acc : Value} {env : Env}
end

section
variable {X : Cx}
end
end L2

namespace L2
open PySem PySem.Spec PyProof.Rows

/-! ### lists of pairs as tables -/
section
variable {κ : Type} [DecidableEq κ]
def valV (kvs : List (κ × V)) (k : κ) : Option V := (kvs.find? fun kv => decide (kv.1 = k)).map (·.2)
/-- in its place, or at the end -/
def putK (kvs : List (κ × V)) (k : κ) (v : V) : List (κ × V) :=
  if (kvs.any fun kv => decide (kv.1 = k)) = true then kvs.map (fun kv => if kv.1 = k then (kv.1, v) else kv) else kvs ++ [(k, v)]
def dropK (kvs : List (κ × V)) (k : κ) : List (κ × V) := kvs.filter fun kv => decide (kv.1 ≠ k)

theorem valV_pos {p : κ × V} {r : List (κ × V)} {k : κ} (e : p.1 = k) : valV (p :: r) k = some p.2 := by simp [valV, List.find?_cons, e]
theorem valV_neg {p : κ × V} {r : List (κ × V)} {k : κ} (e : ¬ p.1 = k) : valV (p :: r) k = valV r k := by simp [valV, List.find?_cons, e]
theorem valV_any (k : κ) : ∀ kvs : List (κ × V), (kvs.any fun kv => decide (kv.1 = k)) = (valV kvs k).isSome
  | [] => rfl
  | p :: r => by
    rw [List.any_cons]
    by_cases e : p.1 = k
    · simp only [valV_pos e, decide_eq_true e, Bool.true_or, Option.isSome_some]
    · rw [valV_neg e, decide_eq_false e, Bool.false_or]; exact valV_any k r
theorem valV_map (k j : κ) (y : V) : ∀ kvs : List (κ × V), valV (kvs.map fun kv => if kv.1 = k then (kv.1, y) else kv) j = (valV kvs j).map fun x => if j = k then y else x
  | [] => rfl
  | p :: r => by
    have ih := valV_map k j y r
    rw [List.map_cons]
    by_cases h : p.1 = k
    · rw [if_pos h]
      by_cases e : p.1 = j
      · rw [valV_pos (p := (p.1, y)) e, valV_pos e, Option.map_some, if_pos (e.symm.trans h)]
      · rw [valV_neg (p := (p.1, y)) e, valV_neg e, ih]
    · rw [if_neg h]
      by_cases e : p.1 = j
      · rw [valV_pos (p := p) e, valV_pos e, Option.map_some, if_neg (fun z => h (e.trans z))]
      · rw [valV_neg (p := p) e, valV_neg e, ih]
theorem valV_snoc (k j : κ) (y : V) : ∀ kvs : List (κ × V), valV kvs k = none → valV (kvs ++ [(k, y)]) j = if j = k then some y else valV kvs j
  | [], _ => by
    by_cases e : k = j
    · rw [if_pos e.symm]; exact valV_pos (p := (k, y)) e
    · rw [if_neg (fun z => e z.symm)]; exact valV_neg (p := (k, y)) e
  | p :: r, hn => by
    rw [List.cons_append]
    have hk : ¬ p.1 = k := fun z => by rw [valV_pos z] at hn; cases hn
    rw [valV_neg hk] at hn
    have ih := valV_snoc k j y r hn
    by_cases e : p.1 = j
    · rw [valV_pos e, valV_pos e, if_neg (fun z => hk (e.trans z))]
    · rw [valV_neg e, valV_neg e, ih]
theorem valV_put (kvs : List (κ × V)) (k j : κ) (y : V) : valV (putK kvs k y) j = if j = k then some y else valV kvs j := by
  unfold putK
  by_cases a : (kvs.any fun kv => decide (kv.1 = k)) = true
  · rw [if_pos a, valV_map]
    rw [valV_any] at a
    by_cases e : j = k
    · obtain ⟨x, hx⟩ := Option.isSome_iff_exists.mp a
      rw [if_pos e, e, hx, Option.map_some, if_pos rfl]
    · rw [if_neg e]
      cases valV kvs j with
      | none => rfl
      | some x => rw [Option.map_some, if_neg e]
  · rw [if_neg a]
    refine valV_snoc k j y kvs ?_
    rw [valV_any] at a
    cases q : valV kvs k with
    | none => rfl
    | some x => rw [q] at a; exact (a rfl).elim
theorem length_putK (kvs : List (κ × V)) (k : κ) (v : V) : (putK kvs k v).length ≤ kvs.length + 1 := by
  unfold putK
  split
  · rw [List.length_map]; omega
  · rw [List.length_append, List.length_cons, List.length_nil]; omega
theorem putK_new {kvs : List (κ × V)} {k : κ} (v : V) (h : valV kvs k = none) : putK kvs k v = kvs ++ [(k, v)] := by
  unfold putK
  rw [valV_any, h]
  exact if_neg (by decide)

theorem RelO.isSome_eq {o : Option V} {u : Option Value} (r : RelO o u) : o.isSome = u.isSome := by
  cases o with
  | none => cases u with
    | none => rfl
    | some _ => exact (show False from r).elim
  | some _ => cases u with
    | none => exact (show False from r).elim
    | some _ => rfl
theorem RelO.getD {o : Option V} {u : Option Value} {d : V} {d' : Value} (r : RelO o u) (rd : RelV d d') : RelV (o.getD d) (u.getD d') := by
  cases o with
  | none => cases u with
    | none => exact rd
    | some _ => exact (show False from r).elim
  | some _ => cases u with
    | none => exact (show False from r).elim
    | some _ => exact r

/-- raw tables of the same keys -/
theorem KV.val {kvs : List (κ × V)} {vs : List (κ × Value)} (r : KV kvs vs) (k : κ) : RelO (valV kvs k) (valueAt vs k) := by
  unfold KV at r
  induction r with
  | nil => exact True.intro
  | @cons p q ps qs h t ih =>
    obtain ⟨h1, h2⟩ := h
    by_cases e : p.1 = k
    · have e' : q.1 = k := h1.symm.trans e
      have b : valueAt (q :: qs) k = some q.2 := by simp [valueAt, List.find?_cons, e']
      rw [valV_pos e, b]; exact h2
    · have e' : ¬ q.1 = k := fun z => e (h1.trans z)
      have b : valueAt (q :: qs) k = valueAt qs k := by simp [valueAt, List.find?_cons, e']
      rw [valV_neg e, b]; exact ih
theorem KV.any {kvs : List (κ × V)} {vs : List (κ × Value)} (r : KV kvs vs) (k : κ) : (kvs.any fun kv => decide (kv.1 = k)) = vs.any fun kv => decide (kv.1 = k) := by
  unfold KV at r
  induction r with
  | nil => rfl
  | cons h t ih => rw [List.any_cons, List.any_cons, ih, h.1]
theorem KV.repl {kvs : List (κ × V)} {vs : List (κ × Value)} (r : KV kvs vs) (k : κ) {y : V} {u : Value} (ry : RelV y u) :
    KV (kvs.map fun kv => if kv.1 = k then (kv.1, y) else kv) (vs.map fun kv => if kv.1 = k then (kv.1, u) else kv) := by
  unfold KV at r ⊢
  induction r with
  | nil => exact .nil
  | @cons p q ps qs h t ih =>
    rw [List.map_cons, List.map_cons]
    refine .cons ?_ ih
    obtain ⟨h1, h2⟩ := h
    by_cases e : p.1 = k
    · rw [if_pos e, if_pos (h1.symm.trans e)]; exact ⟨h1, ry⟩
    · rw [if_neg e, if_neg (fun z => e (h1.trans z))]; exact ⟨h1, h2⟩
theorem KV.put {kvs : List (κ × V)} {vs : List (κ × Value)} (r : KV kvs vs) (k : κ) {y : V} {u : Value} (ry : RelV y u) : KV (putK kvs k y) (stored vs k u) := by
  unfold putK stored
  rw [r.any k]
  by_cases e : (vs.any fun kv => decide (kv.1 = k)) = true
  · rw [if_pos e, if_pos e]; exact r.repl k ry
  · rw [if_neg e, if_neg e]; exact Paired.snoc r ⟨rfl, ry⟩
theorem KV.drop {kvs : List (κ × V)} {vs : List (κ × Value)} (r : KV kvs vs) (k : κ) : KV (dropK kvs k) (without vs k) := by
  unfold KV at r ⊢
  unfold dropK without
  induction r with
  | nil => exact .nil
  | @cons p q ps qs h t ih =>
    obtain ⟨h1, h2⟩ := h
    rw [List.filter_cons, List.filter_cons]
    by_cases e : p.1 = k
    · have a : ¬ decide (p.1 ≠ k) = true := by simp [e]
      have b : ¬ decide (q.1 ≠ k) = true := by simp [h1.symm.trans e]
      rw [if_neg a, if_neg b]; exact ih
    · have e' : ¬ q.1 = k := fun z => e (h1.trans z)
      have a : decide (p.1 ≠ k) = true := by simp [e]
      have b : decide (q.1 ≠ k) = true := by simp [e']
      rw [if_pos a, if_pos b]; exact .cons ⟨h1, h2⟩ ih
theorem KV.length {kvs : List (κ × V)} {vs : List (κ × Value)} (r : KV kvs vs) : kvs.length = vs.length := Paired.length r
theorem dropK_le (kvs : List (κ × V)) (k : κ) : (dropK kvs k).length ≤ kvs.length := List.length_filter_le _ _
end


/-! ### a tracked dict, its keys ints and texts or tuples of these -/
theorem kV_is {P : Program} {w : World} {k : Key} {u : Value} (r : RelV (kV k) u) : (mixKind P w).is k u = true := by
  cases k with
  | inl i => obtain ⟨t, e⟩ := (show ∃ t, u = Value.int i t from r); subst e; exact mixKind_int P w i t
  | inr x => obtain ⟨t, e⟩ := (show ∃ t, u = Value.str x t from r); subst e; exact mixKind_str P w x t
theorem items_are {P : Program} {w : World} : ∀ {ks : List Key} {us : List Value}, Vals (ks.map kV) us → ItemsAre (mixKind P w) ks us
  | [], _, r => by rw [List.map_nil] at r; cases r; exact .nil
  | k :: ks, _, r => by
    rw [List.map_cons] at r
    cases r with
    | cons h t => exact .cons (kV_is h) (items_are t)

/-- raw entries of a dict with tuple keys -/
abbrev KT (H : Hp) : List (List Key × V) → List (List Key × Addr × Value) → Prop := Paired fun p q => p.1 = q.1 ∧ H q.2.1 = some (.tup (p.1.map kV)) ∧ RelV p.2 q.2.2
theorem KT.val {H : Hp} {kvs : List (List Key × V)} {xs : List (List Key × Addr × Value)} (r : KT H kvs xs) (k : List Key) : RelO (valV kvs k) ((atKey xs k).map (·.2)) := by
  induction r with
  | nil => exact True.intro
  | @cons p q ps qs h t ih =>
    obtain ⟨h1, _, h2⟩ := h
    by_cases e : p.1 = k
    · have e' : q.1 = k := h1.symm.trans e
      have b : atKey (q :: qs) k = some q.2 := by simp [atKey, List.find?_cons, e']
      rw [valV_pos e, b]; exact h2
    · have e' : ¬ q.1 = k := fun z => e (h1.trans z)
      have b : atKey (q :: qs) k = atKey qs k := by simp [atKey, List.find?_cons, e']
      rw [valV_neg e, b]; exact ih
theorem KT.repl {H : Hp} {kvs : List (List Key × V)} {xs : List (List Key × Addr × Value)} (r : KT H kvs xs) (k : List Key) {y : V} {u : Value} (ry : RelV y u) :
    KT H (kvs.map fun kv => if kv.1 = k then (kv.1, y) else kv) (xs.map (putAt k u)) := by
  induction r with
  | nil => exact .nil
  | @cons p q ps qs h t ih =>
    rw [List.map_cons, List.map_cons]
    refine .cons ?_ ih
    obtain ⟨h1, h2, h3⟩ := h
    unfold putAt
    by_cases e : p.1 = k
    · rw [if_pos e, if_pos (h1.symm.trans e)]; exact ⟨h1, h2, ry⟩
    · rw [if_neg e, if_neg (fun z => e (h1.trans z))]; exact ⟨h1, h2, h3⟩
theorem KT.put {H : Hp} {kvs : List (List Key × V)} {xs : List (List Key × Addr × Value)} (r : KT H kvs xs) (k : List Key) {b : Addr} {y : V} {u : Value} (hb : H b = some (.tup (k.map kV))) (ry : RelV y u) :
    KT H (putK kvs k y) (storedH xs k b u) := by
  have e : (kvs.any fun kv => decide (kv.1 = k)) = (atKey xs k).isSome := by
    rw [valV_any, (r.val k).isSome_eq, Option.isSome_map]
  unfold putK storedH
  rw [e]
  by_cases q : (atKey xs k).isSome = true
  · rw [if_pos q, if_pos q]; exact r.repl k ry
  · rw [if_neg q, if_neg q]; exact Paired.snoc r ⟨rfl, hb, ry⟩
theorem KT.keeps {H H' : Hp} {kvs : List (List Key × V)} {xs : List (List Key × Addr × Value)} (r : KT H kvs xs) (ht : ∀ b ys, H b = some (.tup ys) → H' b = some (.tup ys)) : KT H' kvs xs :=
  Paired.mapP r fun _ _ z => ⟨z.1, ht _ _ z.2.1, z.2.2⟩

section
variable {P : Program} {w : World} {H : Hp} {h : Heap} {a : Addr}
theorem rd_of {u : HO} (ok : HOk P w H h) (e : Rd H a u) : ObjOk P w H h a u := e.ok ok
theorem dk_rd {kvs : List (Key × V)} (ok : HOk P w H h) (e : Rd H a (.dK kvs)) : kvs.length ≤ sizeLine ∧ (a == sysModules) = false ∧ ∃ vs, KV kvs vs ∧ h.DictOf (mixKind P w) a vs :=
  show ObjOk P w H h a (.dK kvs) from rd_of ok e
theorem dk_of {kvs : List (Key × V)} (ok : HOk P w H h) (e : H a = some (.dK kvs)) : kvs.length ≤ sizeLine ∧ (a == sysModules) = false ∧ ∃ vs, KV kvs vs ∧ h.DictOf (mixKind P w) a vs := dk_rd ok (.inl e)
/-- a tracked tuple of ints and texts is a key -/
theorem key_of {ks : List Key} (ok : HOk P w H h) (e : H a = some (.tup (ks.map kV))) : (tupleKind (mixKind P w)).is h ks a := by
  obtain ⟨_, its, r, o, h1, h2, n, h3⟩ := (show ObjOk P w H h a (.tup (ks.map kV)) from ok a _ e)
  exact ⟨o, its.toArray, n, h1, h2, h3, by simpa using items_are r⟩
theorem dt_rd {kvs : List (List Key × V)} (ok : HOk P w H h) (e : Rd H a (.dT kvs)) : kvs.length ≤ sizeLine ∧ (a == sysModules) = false ∧
    ∃ xs, KT H kvs xs ∧ h.DictOfH (tupleKind (mixKind P w)) a xs := by
  obtain ⟨z, y, xs, r, o, es, ep, h1, h2, h3, h4, h5⟩ := (show ObjOk P w H h a (.dT kvs) from rd_of ok e)
  refine ⟨z, y, xs, r, o, es, ep, h1, h2, h3, h4, fun x hx => ?_, h5⟩
  have all : ∀ {l : List (List Key × V)} {m : List (List Key × Addr × Value)}, KT H l m → ∀ x ∈ m, (tupleKind (mixKind P w)).is h x.1 x.2.1 := by
    intro l m q
    induction q with
    | nil => intro x hx; exact nomatch hx
    | @cons p q ps qs hq t ih =>
      intro x hx
      rcases List.mem_cons.mp hx with e | hx
      · subst e
        exact key_of ok (by rw [← hq.1]; exact hq.2.1)
      · exact ih x hx
  exact all r x hx
theorem dt_of {kvs : List (List Key × V)} (ok : HOk P w H h) (e : H a = some (.dT kvs)) : kvs.length ≤ sizeLine ∧ (a == sysModules) = false ∧
    ∃ xs, KT H kvs xs ∧ h.DictOfH (tupleKind (mixKind P w)) a xs := dt_rd ok (.inl e)
end

/-- what the dict at a holds at the key y -/
def DGet (H : Hp) (a : Addr) (y : V) (r : Option V) : Prop :=
  (∃ kvs k, Rd H a (.dK kvs) ∧ y = kV k ∧ r = valV kvs k) ∨ ∃ kvs k b, Rd H a (.dT kvs) ∧ y = .ref b ∧ H b = some (.tup (k.map kV)) ∧ r = valV kvs k
/-- the heap behind a[y] = v -/
def DPut (H : Hp) (a : Addr) (y v : V) (H' : Hp) : Prop :=
  (∃ kvs k, H a = some (.dK kvs) ∧ y = kV k ∧ kvs.length < sizeLine ∧ H' = upd H a (.dK (putK kvs k v))) ∨
  ∃ kvs k b, H a = some (.dT kvs) ∧ y = .ref b ∧ H b = some (.tup (k.map kV)) ∧ kvs.length < sizeLine ∧ H' = upd H a (.dT (putK kvs k v))
theorem DGet.k {H : Hp} {a : Addr} {kvs : List (Key × V)} {k : Key} (e : H a = some (.dK kvs)) : DGet H a (kV k) (valV kvs k) := .inl ⟨kvs, k, .inl e, rfl, rfl⟩
theorem DGet.t {H : Hp} {a b : Addr} {kvs : List (List Key × V)} {k : List Key} (e : H a = some (.dT kvs)) (eb : H b = some (.tup (k.map kV))) : DGet H a (.ref b) (valV kvs k) := .inr ⟨kvs, k, b, .inl e, rfl, eb, rfl⟩
theorem DPut.k {H : Hp} {a : Addr} {kvs : List (Key × V)} {k : Key} {v : V} (e : H a = some (.dK kvs)) (hl : kvs.length < sizeLine) : DPut H a (kV k) v (upd H a (.dK (putK kvs k v))) := .inl ⟨kvs, k, e, rfl, hl, rfl⟩
theorem DPut.t {H : Hp} {a b : Addr} {kvs : List (List Key × V)} {k : List Key} {v : V} (e : H a = some (.dT kvs)) (eb : H b = some (.tup (k.map kV))) (hl : kvs.length < sizeLine) :
    DPut H a (.ref b) v (upd H a (.dT (putK kvs k v))) := .inr ⟨kvs, k, b, e, rfl, eb, hl, rfl⟩


section
variable {X : Cx} {pins : List (Addr × Obj)} {σ : St} {H : Hp} {s : Shared} {a : Addr} {y v : V} {u r : Value} {o : Option V} {A : Around} {E : Value → Shared → Prop}

theorem Inv.big (I : Inv X pins σ H s) : sysModules < s.heap.objs.size := by
  have h : mainGlobals < s.heap.objs.size := (I.mod.glob.keeps I.bk).lt
  exact Nat.lt_trans (by decide) h

/-- d[y], there -/
theorem d_getItem {Q : Value → Shared → Prop} (hu : A.units + 1 < cLine) (I : Inv X pins σ H s) (g : DGet H a y (some v)) (ry : RelV y u) (h : ∀ w' s', Inv X pins σ H s' → RelV v w' → Q w' s') :
    wpAny (model X.prog X.w) A (getItem (.ref a) u) Q E s := by
  rcases g with ⟨kvs, k, e, ey, l⟩ | ⟨kvs, k, b, e, ey, eb, l⟩
  · subst ey
    obtain ⟨z, hd, vs, rel, dd⟩ := dk_rd I.hok e
    obtain ⟨w', hw, rw'⟩ := RelO.some_of (v := v) (o := valueAt vs k) (by rw [l]; exact rel.val k)
    exact wpAny_getItem_of (kV_is ry) dd.mapOf hw (h w' _ (I.tok _) rw')
  · subst ey
    cases (show u = Value.ref b from ry)
    obtain ⟨z, hd, xs, rel, dd⟩ := dt_rd I.hok e
    obtain ⟨w', hw, rw'⟩ := RelO.some_of (v := v) (o := (atKey xs k).map (·.2)) (by rw [l]; exact rel.val k)
    obtain ⟨p, hp, hp2⟩ := Option.map_eq_some_iff.mp hw
    refine wpAny_getItem_heap (tupleKind_room_in1 hu) (key_of I.hok eb) dd hp ?_
    rw [hp2]
    exact h w' _ (I.tok _) rw'
/-- y in d -/
theorem d_in {Q : Value → Shared → Prop} (hu : A.units + 1 < cLine) (I : Inv X pins σ H s) (g : DGet H a y o) (ry : RelV y u) (h : ∀ s', Inv X pins σ H s' → Q (.bool o.isSome) s') :
    wpAny (model X.prog X.w) A (compareOp .In u (.ref a)) Q E s := by
  rcases g with ⟨kvs, k, e, ey, l⟩ | ⟨kvs, k, b, e, ey, eb, l⟩
  · subst ey
    obtain ⟨z, hd, vs, rel, dd⟩ := dk_rd I.hok e
    refine wpAny_in_of (kV_is ry) hd dd.mapOf ?_
    rw [← (rel.val k).isSome_eq, ← l]
    exact h _ (I.tok _)
  · subst ey
    cases (show u = Value.ref b from ry)
    obtain ⟨z, hd, xs, rel, dd⟩ := dt_rd I.hok e
    refine wpAny_in_heap (tupleKind_room_in1 hu) (key_of I.hok eb) hd dd ?_
    have q := (rel.val k).isSome_eq
    rw [Option.isSome_map] at q
    rw [← q, ← l]
    exact h _ (I.tok _)
theorem d_notIn {Q : Value → Shared → Prop} (hu : A.units + 1 < cLine) (I : Inv X pins σ H s) (g : DGet H a y o) (ry : RelV y u) (h : ∀ s', Inv X pins σ H s' → Q (.bool (!o.isSome)) s') :
    wpAny (model X.prog X.w) A (compareOp .NotIn u (.ref a)) Q E s := by
  rcases g with ⟨kvs, k, e, ey, l⟩ | ⟨kvs, k, b, e, ey, eb, l⟩
  · subst ey
    obtain ⟨z, hd, vs, rel, dd⟩ := dk_rd I.hok e
    refine wpAny_notIn_of (kV_is ry) hd dd.mapOf ?_
    rw [← (rel.val k).isSome_eq, ← l]
    exact h _ (I.tok _)
  · subst ey
    cases (show u = Value.ref b from ry)
    obtain ⟨z, hd, xs, rel, dd⟩ := dt_rd I.hok e
    refine wpAny_notIn_heap (tupleKind_room_in1 hu) (key_of I.hok eb) hd dd ?_
    have q := (rel.val k).isSome_eq
    rw [Option.isSome_map] at q
    rw [← q, ← l]
    exact h _ (I.tok _)
/-- a dict's object is replaced -/
theorem d_write {h' : Heap} {t' : Nat} {ob : HO} (I : Inv X pins σ H s) (mu : Mut (H a)) (hs : Heap.SameBut a s.heap h') (he : ∃ q, h'.get? a = some q) (new : ObjOk X.prog X.w (upd H a ob) h' a ob) :
    Inv X pins σ (upd H a ob) { s with heap := h', toks := t' } :=
  I.write (x := a) (e := a) mu (.inl rfl) (fun b q hb z => (hs.2 b hb).trans z) he new
theorem dk_new {P : Program} {w : World} {H' : Hp} {h' : Heap} {kvs : List (Key × V)} {vs : List (Key × Value)} (z : kvs.length ≤ sizeLine) (hd : (a == sysModules) = false) (rel : KV kvs vs) (dd : h'.DictOf (mixKind P w) a vs) :
    ObjOk P w H' h' a (.dK kvs) := ⟨z, hd, vs, rel, dd⟩
/-- d[y] = v -/
theorem d_setItem {H' : Hp} {Q : Unit → Shared → Prop} (hu : A.units + 1 < cLine) (I : Inv X pins σ H s) (g : DPut H a y v H') (ry : RelV y u) (rv : RelV v r) (h : ∀ s', Inv X pins σ H' s' → Q () s') :
    wpAny (model X.prog X.w) A (setItem (.ref a) u r) Q E s := by
  rcases g with ⟨kvs, k, e, ey, l, eH⟩ | ⟨kvs, k, b, e, ey, eb, l, eH⟩
  · subst ey eH
    obtain ⟨z, hd, vs, rel, dd⟩ := dk_of I.hok e
    have hz : vs.length ≤ sizeLine := by rw [← rel.length]; exact z
    have hl : (putK kvs k v).length ≤ sizeLine := by have := length_putK kvs k v; omega
    refine wpAny_setItem_pairs (hsz := hz) (kV_is ry) dd fun h' dd' hs => h _ ?_
    have he : ∃ q, h'.get? a = some q := let ⟨q, _, _, hq, _⟩ := dd'; ⟨q, hq⟩
    exact d_write I (by rw [e]; exact True.intro) hs he (dk_new hl hd (rel.put k rv) dd')
  · subst ey eH
    cases (show u = Value.ref b from ry)
    obtain ⟨z, hd, xs, rel, dd⟩ := dt_of I.hok e
    have hz : xs.length ≤ sizeLine := by rw [← Paired.length rel]; exact z
    have hl : (putK kvs k v).length ≤ sizeLine := by have := length_putK kvs k v; omega
    refine wpAny_setItem_heap (hsz := hz) (tupleKind_room_in1 hu) (key_of I.hok eb) dd fun h' dd' hs => h _ ?_
    obtain ⟨q, es, ep, hq, h2, h3, h4, _, h5⟩ := dd'
    refine d_write I (by rw [e]; exact True.intro) hs ⟨q, hq⟩ ⟨hl, hd, _, (rel.put k eb rv).keeps fun c ys ec => ?_, q, es, ep, hq, h2, h3, h4, h5⟩
    rw [upd_ne (ne_of ec e (fun z => nomatch z))]
    exact ec
end

section
variable {X : Cx} {pins : List (Addr × Obj)} {σ : St} {H : Hp} {s : Shared} {a : Addr} {kvs : List (Key × V)} {k : Key} {u : Value} {A : Around} {E : Value → Shared → Prop}
/-- del d[k] -/
theorem d_delItem {Q : Unit → Shared → Prop} (I : Inv X pins σ H s) (e : H a = some (.dK kvs)) (ry : RelV (kV k) u) (l : (valV kvs k).isSome = true) (h : ∀ s', Inv X pins σ (upd H a (.dK (dropK kvs k))) s' → Q () s') :
    wpAny (model X.prog X.w) A (delItem (.ref a) u) Q E s := by
  obtain ⟨z, hd, vs, rel, dd⟩ := dk_of I.hok e
  refine wpAny_delItem_slot dd.typeIs (by decide) PySem.F.slot_dict_delitem
    (call_meetsIn PySem.F.slot_dict_delitem dd.typeIs PySem.F.entry_dict_delitem (PySem.F.args_dict_delitem_2 _ _) (meets_dict_delitem_pairs (mixKind X.prog X.w) a (kV_is ry)) ⟨vs, dd, by rw [← rel.length]; exact z, by rw [← (rel.val k).isSome_eq]; exact l, fun h' dd' hs => h _ ?_⟩)
  have he : ∃ q, h'.get? a = some q := let ⟨q, _, _, hq, _⟩ := dd'; ⟨q, hq⟩
  exact d_write I (by rw [e]; exact True.intro) hs he (dk_new (Nat.le_trans (dropK_le kvs k) z) hd (rel.drop k) dd')
/-- d.pop(k[, x]), there -/
theorem d_pop {v : V} {more : List Value} {Q : Value → Shared → Prop} (I : Inv X pins σ H s) (e : H a = some (.dK kvs)) (ry : RelV (kV k) u) (l : valV kvs k = some v) (hm : more = [] ∨ ∃ x, more = [x])
    (h : ∀ w' s', Inv X pins σ (upd H a (.dK (dropK kvs k))) s' → RelV v w' → Q w' s') : wpAny (model X.prog X.w) A (call (.builtin "dict.pop") (.ref a :: u :: more)) Q E s := by
  obtain ⟨z, hd, vs, rel, dd⟩ := dk_of I.hok e
  obtain ⟨w', hw, rw'⟩ := RelO.some_of (v := v) (o := valueAt vs k) (by rw [← l]; exact rel.val k)
  have hp : (keyPart u).isSome = true := by
    cases k with
    | inl i => obtain ⟨t, q⟩ := (show ∃ t, u = Value.int i t from ry); subst q; rfl
    | inr x => obtain ⟨t, q⟩ := (show ∃ t, u = Value.str x t from ry); subst q; rfl
  have ha : argsOk "dict.pop" ⟨.ref a :: u :: more, []⟩ := by
    rcases hm with q | ⟨x, q⟩
    · subst q; exact PySem.F.args_dict_pop_2 _ _
    · subst q; exact PySem.F.args_dict_pop_3 _ _ _
  refine call_meetsIn PySem.F.slot_dict_pop dd.typeIs PySem.F.entry_dict_pop ha (meets_dict_pop_there (mixKind X.prog X.w) a (kV_is ry) more hm hp)
    ⟨vs, w', dd, by rw [← rel.length]; exact z, hw, fun h' dd' hs => h w' _ ?_ rw'⟩
  have he : ∃ q, h'.get? a = some q := let ⟨q, _, _, hq, _⟩ := dd'; ⟨q, hq⟩
  exact d_write I (by rw [e]; exact True.intro) hs he (dk_new (Nat.le_trans (dropK_le kvs k) z) hd (rel.drop k) dd')
/-- d.pop(k, x), not there -/
theorem d_popD {r : Value} {Q : Value → Shared → Prop} (I : Inv X pins σ H s) (e : H a = some (.dK kvs)) (ry : RelV (kV k) u) (l : valV kvs k = none) (h : ∀ s', Inv X pins σ H s' → Q r s') :
    wpAny (model X.prog X.w) A (call (.builtin "dict.pop") [.ref a, u, r]) Q E s := by
  obtain ⟨z, hd, vs, rel, dd⟩ := dk_of I.hok e
  have hn : valueAt vs k = none := RelO.none_of (by rw [← l]; exact rel.val k)
  have hp : (keyPart u).isSome = true := by
    cases k with
    | inl i => obtain ⟨t, q⟩ := (show ∃ t, u = Value.int i t from ry); subst q; rfl
    | inr x => obtain ⟨t, q⟩ := (show ∃ t, u = Value.str x t from ry); subst q; rfl
  exact call_meetsIn PySem.F.slot_dict_pop dd.typeIs PySem.F.entry_dict_pop (PySem.F.args_dict_pop_3 _ _ _) (meets_dict_pop_default (mixKind X.prog X.w) a (kV_is ry) hd hp r) ⟨vs, dd, hn, h _ (I.tok _)⟩
end


/-! ### readings and rules -/
/-- the element of a subscription, not a slice -/
def NoSl (i : Expr) : Prop := ∀ ov iv, subscripted i false ov iv = operate [ov, iv] (getItem ov iv)
theorem subD_of {prog : Program} {w : World} {A : Around} {E : Value → Shared → Prop} {s : Shared} {env : Env} {value slice : Expr} {pos : Pos} {T id : String} {Q : Value → Shared → Prop}
    (hl : typeLookup (.type T) "__getitem__" = pure (some (.builtin id))) (hs : NoSl slice)
    (h : wpAny (model prog w) A (eval value env) (fun o s₁ => wpAny (model prog w) A (eval slice env) (fun i s₂ => s₂.TypeIs o T ∧ wpAny (model prog w) A (getItem o i) Q E s₂) E s₁) E s) :
    wpAny (model prog w) A (eval (.Subscript value slice pos) env) Q E s := by
  refine Subscript_ (wpAny_mono h (fun o s₁ h₁ => wpAny_mono h₁ (fun i s₂ h₂ => ?_) fun _ _ x => x) fun _ _ x => x)
  obtain ⟨hT, h₂⟩ := h₂
  unfold subscriptTail
  refine wpAny_bind ?_
  rw [getitemInPython_of_ne hT.not_modules]
  refine wpAny_bind (wpAny_specialOf hT hl ?_)
  have fin : wpAny (model prog w) A (subscripted slice false o i) (fun r s₃ => wpAny (model prog w) A (letTemporaryGo value o r >>= fun _ => pure r) Q E s₃) E s₂ := by
    rw [hs o i]
    exact wpAny_operating (wpAny_mono h₂ (fun r s₃ h₃ => wpAny_bind (wpAny_letTemporaryGo (wpAny_pure h₃))) fun _ _ x => x)
  first
    | exact wpAny_pure (wpAny_bind fin)
    | exact wpAny_bind (wpAny_pure (wpAny_bind fin))
    | exact wpAny_bind fin

theorem dict_typeIs {X : Cx} {pins : List (Addr × Obj)} {σ : St} {H : Hp} {s : Shared} {a : Addr} {y : V} {o : Option V} (I : Inv X pins σ H s) (g : DGet H a y o) : s.TypeIs (.ref a) "dict" := by
  rcases g with ⟨kvs, k, e, _, _⟩ | ⟨kvs, k, b, e, _, _, _⟩
  · obtain ⟨_, _, vs, _, dd⟩ := dk_rd I.hok e
    exact dd.typeIs
  · obtain ⟨_, _, xs, _, dd⟩ := dt_rd I.hok e
    exact dd.typeIs

/-- d[y] -/
def tDGet (td ty : TE) : TE := fun σ H Q => td σ H fun x H1 => ty σ H1 fun y H2 => ∃ a v, x = .ref a ∧ DGet H2 a y (some v) ∧ Q v H2
/-- y in d, y not in d -/
def tDIn (ty td : TE) : TE := fun σ H Q => ty σ H fun y H1 => td σ H1 fun x H2 => ∃ a o, x = .ref a ∧ DGet H2 a y o ∧ Q (.bl o.isSome) H2
def tDNotIn (ty td : TE) : TE := fun σ H Q => ty σ H fun y H1 => td σ H1 fun x H2 => ∃ a o, x = .ref a ∧ DGet H2 a y o ∧ Q (.bl (!o.isSome)) H2
/-- d[y] = v -/
def sDPut (td ty tv : TE) : TS := fun D σ H => tv σ H fun v H1 => td σ H1 fun x H2 => ty σ H2 fun y H3 => ∃ a H4, x = .ref a ∧ DPut H3 a y v H4 ∧ D.nx σ H4

section
variable {X : Cx} {o i e value : Expr} {pos pos' tpos : Pos} {td ty tv : TE}
theorem pe_dget (hu : X.A.units + 1 < cLine) (ho : PE X o td) (hi : PE X i ty) (hs : NoSl i) : PE X (.Subscript o i pos) (tDGet td ty) := by
  intro pins s σ H Q I h
  refine subD_of PySem.F.slot_dict_getitem.lookup hs (thn (ho pins s σ H _ I h) fun u s1 ⟨x, H1, I1, rx, q1⟩ => thn (hi pins s1 σ H1 _ I1 q1) fun iv s2 ⟨y, H2, I2, ry, a, v, ex, g, q2⟩ => ?_)
  subst ex
  obtain rfl : u = Value.ref a := rx
  exact ⟨dict_typeIs I2 g, d_getItem hu I2 g ry fun w' s3 I3 rw' => ⟨v, H2, I3, rw', q2⟩⟩
theorem pc_din (hu : X.A.units + 1 < cLine) (hi : PE X i ty) (ho : PE X o td) : PC X .In i o (tDIn ty td) := by
  intro pins s σ H Q I h
  refine thn (hi pins s σ H _ I h) fun iv s1 ⟨y, H1, I1, ry, q1⟩ => thn (ho pins s1 σ H1 _ I1 q1) fun u s2 ⟨x, H2, I2, rx, a, ov, ex, g, q2⟩ => ?_
  subst ex
  obtain rfl : u = Value.ref a := rx
  exact d_in hu I2 g ry fun s3 I3 => ⟨.bl ov.isSome, H2, I3, rfl, q2⟩
theorem pc_dnotin (hu : X.A.units + 1 < cLine) (hi : PE X i ty) (ho : PE X o td) : PC X .NotIn i o (tDNotIn ty td) := by
  intro pins s σ H Q I h
  refine thn (hi pins s σ H _ I h) fun iv s1 ⟨y, H1, I1, ry, q1⟩ => thn (ho pins s1 σ H1 _ I1 q1) fun u s2 ⟨x, H2, I2, rx, a, ov, ex, g, q2⟩ => ?_
  subst ex
  obtain rfl : u = Value.ref a := rx
  exact d_notIn hu I2 g ry fun s3 I3 => ⟨.bl (!ov.isSome), H2, I3, rfl, q2⟩
theorem ps_dput (hu : X.A.units + 1 < cLine) (ho : PE X o td) (hi : PE X i ty) (hv : PE X value tv) (hs : swapsWith value (some (.Subscript o i pos')) pos.line X.env = pure false) :
    PS X (.Assign [.Subscript o i pos'] value pos) (sDPut td ty tv) := by
  intro pins s σ H D I h
  refine wpAny_Assign_Subscript (thn (hv pins s σ H _ I h) fun r s1 ⟨v, H1, I1, rv, q1⟩ => thn (ho pins s1 σ H1 _ I1 q1) fun u s2 ⟨x, H2, I2, rx, q2⟩ => thn (hi pins s2 σ H2 _ I2 q2) fun iv s3 ⟨y, H3, I3, ry, a, H4, ex, g, q3⟩ => ?_) hs
  subst ex
  obtain rfl : u = Value.ref a := rx
  exact d_setItem hu I3 g ry rv fun s4 I4 => ⟨σ, H4, I4, q3⟩
end


/-! ### displays -/
theorem dk_empty {P : Program} {w : World} {H : Hp} (h : Heap) (hb : sysModules < h.objs.size) : ObjOk P w H (h.push { cls := .type "dict", data := .dict #[] }) h.objs.size (.dK []) :=
  ⟨Nat.zero_le _, beq_eq_false_iff_ne.mpr (Ne.symm (Nat.ne_of_lt hb)), [], .nil, Heap.DictOf.new h⟩
theorem dt_empty {P : Program} {w : World} {H : Hp} (h : Heap) (hb : sysModules < h.objs.size) : ObjOk P w H (h.push { cls := .type "dict", data := .dict #[] }) h.objs.size (.dT []) :=
  ⟨Nat.zero_le _, beq_eq_false_iff_ne.mpr (Ne.symm (Nat.ne_of_lt hb)), [], .nil, _, #[], 0, Heap.get?_push_size _ rfl, ⟨rfl, rfl, rfl⟩, rfl, rfl, List.nodup_nil⟩
/-- {}, to be a dict of the kind that is wanted -/
def tDNewK : TE := fun _ H Q => ∀ p, H p = none → Q (.ref p) (upd H p (.dK []))
def tDNewT : TE := fun _ H Q => ∀ p, H p = none → Q (.ref p) (upd H p (.dT []))
section
variable {X : Cx} {pos : Pos}
theorem pe_dnewK : PE X (.Dict [] [] pos) tDNewK := fun pins s σ H Q I h =>
  wpAny_Dict_empty ⟨.ref s.heap.objs.size, _, I.laid (a := s.heap.objs.size) (o := .dK []) (t' := s.toks) (fun _ _ q => Heap.get?_push_of_some _ q) (Nat.le_refl _) (dk_empty s.heap I.big), rfl, h _ (I.hok.fresh (Nat.le_refl _))⟩
theorem pe_dnewT : PE X (.Dict [] [] pos) tDNewT := fun pins s σ H Q I h =>
  wpAny_Dict_empty ⟨.ref s.heap.objs.size, _, I.laid (a := s.heap.objs.size) (o := .dT []) (t' := s.toks) (fun _ _ q => Heap.get?_push_of_some _ q) (Nat.le_refl _) (dt_empty s.heap I.big), rfl, h _ (I.hok.fresh (Nat.le_refl _))⟩
end




/-! ### methods -/
structure M2 (X : Cx) (o : Expr) (m : Str) (apos : Pos) (e f : Expr) (cpos : Pos) : Prop where
  base : attributeBase o m X.env (eval o X.env) = eval o X.env
  few : ((backTo cpos (starEach [e, f] X.env)).all (fun x => !x.1) && (backToKw cpos (keywordEach [] X.env)).all (fun x => x.1.isSome)
    && decide (([e, f] : List Expr).length + ([] : List Keyword).length + (if ([] : List Keyword).isEmpty then 0 else 1) < 30)) = true
  line : (apos.endLine == cpos.line) = true
  trees : backTo cpos (starEach [e, f] X.env) = [(false, eval e X.env), (false, eval f X.env)]

/-- a is a dict, whatever its keys -/
def IsD (H : Hp) (a : Addr) : Prop := (∃ kvs, Rd H a (.dK kvs)) ∨ ∃ kvs, Rd H a (.dT kvs)
theorem isD_at {X : Cx} {pins : List (Addr × Obj)} {σ : St} {H : Hp} {s : Shared} {a : Addr} (I : Inv X pins σ H s) (d : IsD H a) :
    s.TypeIs (.ref a) "dict" ∧ (∀ b, Value.ref a = .ref b → ∃ ob, s.heap.get? b = some ob ∧ ob.dict = none) ∧ (a == sysModules) = false := by
  rcases d with ⟨kvs, e⟩ | ⟨kvs, e⟩
  · obtain ⟨_, hd, vs, _, dd⟩ := dk_rd I.hok e
    refine ⟨dd.typeIs, fun b q => ?_, hd⟩
    cases q
    obtain ⟨ob, _, _, h1, h2, _⟩ := dd
    exact ⟨ob, h1, h2.2.1⟩
  · obtain ⟨_, hd, xs, _, dd⟩ := dt_rd I.hok e
    refine ⟨dd.typeIs, fun b q => ?_, hd⟩
    cases q
    obtain ⟨ob, _, _, h1, h2, _⟩ := dd
    exact ⟨ob, h1, h2.2.1⟩

section
variable {X : Cx} {pins : List (Addr × Obj)} {σ : St} {H : Hp} {s : Shared} {a : Addr} {y d : V} {u r : Value} {o : Option V} {A : Around} {E : Value → Shared → Prop}
/-- d.get(y, x) -/
theorem d_get2 {Q : Value → Shared → Prop} (hu : A.units + 1 < cLine) (I : Inv X pins σ H s) (g : DGet H a y o) (ry : RelV y u) (rd : RelV d r) (h : ∀ w' s', Inv X pins σ H s' → RelV (o.getD d) w' → Q w' s') :
    wpAny (model X.prog X.w) A (call (.builtin "dict.get") [.ref a, u, r]) Q E s := by
  rcases g with ⟨kvs, k, e, ey, l⟩ | ⟨kvs, k, b, e, ey, eb, l⟩
  · subst ey
    obtain ⟨z, hd, vs, rel, dd⟩ := dk_rd I.hok e
    refine call_meetsIn PySem.F.slot_dict_get dd.typeIs PySem.F.entry_dict_get (PySem.F.args_dict_get_3 _ _ _) (meets_dict_get_default (mixKind X.prog X.w) a (kV_is ry) hd r) ⟨_, dd.mapOf, h _ _ (I.tok _) ?_⟩
    rw [l]
    exact (rel.val k).getD rd
  · subst ey
    cases (show u = Value.ref b from ry)
    obtain ⟨z, hd, xs, rel, dd⟩ := dt_rd I.hok e
    refine call_meetsIn PySem.F.slot_dict_get dd.typeIs PySem.F.entry_dict_get (PySem.F.args_dict_get_3 _ _ _) (meetsH_dict_get_default (tupleKind (mixKind X.prog X.w)) a b hd r) ⟨tupleKind_room_in1 hu, k, xs, key_of I.hok eb, dd, h _ _ (I.tok _) ?_⟩
    rw [l]
    exact (rel.val k).getD rd
end

def tDGet2 (td ty tx : TE) : TE := fun σ H Q => td σ H fun x H1 => ∃ a, x = .ref a ∧ IsD H1 a ∧ ty σ H1 fun y H2 => tx σ H2 fun z H3 => ∃ o, DGet H3 a y o ∧ Q (o.getD z) H3
def tDPop2 (td ty tx : TE) : TE := fun σ H Q => td σ H fun x H1 => ∃ a, x = .ref a ∧ IsD H1 a ∧ ty σ H1 fun y H2 => tx σ H2 fun z H3 => ∃ kvs k, H3 a = some (.dK kvs) ∧ y = kV k ∧
  (∀ v, valV kvs k = some v → Q v (upd H3 a (.dK (dropK kvs k)))) ∧ (valV kvs k = none → Q z H3)
section
variable {X : Cx} {o e f : Expr} {apos cpos : Pos} {td ty tx : TE}
theorem pe_dget2 (hu : X.A.units + 1 < cLine) (ho : PE X o td) (he : PE X e ty) (hf : PE X f tx) (m : M2 X o "get" apos e f cpos) : PE X (.Call (.Attribute o "get" apos) [e, f] [] cpos) (tDGet2 td ty tx) := by
  intro pins s σ H Q I h
  refine wpAny_Call_method m.base m.few m.line PySem.F.plainAttrs_dict PySem.F.slot_dict_get PySem.F.type_dict_get (thn (ho pins s σ H _ I h) fun u s1 ⟨x, H1, I1, rx, a, ex, d, q1⟩ => ?_)
  subst ex
  obtain rfl : u = Value.ref a := rx
  obtain ⟨t1, t2, _⟩ := isD_at I1 d
  refine ⟨t1, t2, ?_⟩
  rw [m.trees]
  refine Calls.callWith_builtin rfl (Calls.evalArgs_plain (Calls.spliced_cons (thn (he pins s1 σ H1 _ I1 q1) fun iv s2 ⟨y, H2, I2, ry, q2⟩ =>
    Calls.spliced_cons (thn (hf pins s2 σ H2 _ I2 q2) fun fv s3 ⟨z, H3, I3, rz, ov, g, q3⟩ => Calls.spliced_nil ?_))))
  exact d_get2 hu I3 g ry rz fun w' s4 I4 rw' => ⟨_, H3, I4, rw', q3⟩
theorem pe_dpop2 (ho : PE X o td) (he : PE X e ty) (hf : PE X f tx) (m : M2 X o "pop" apos e f cpos) : PE X (.Call (.Attribute o "pop" apos) [e, f] [] cpos) (tDPop2 td ty tx) := by
  intro pins s σ H Q I h
  refine wpAny_Call_method m.base m.few m.line PySem.F.plainAttrs_dict PySem.F.slot_dict_pop PySem.F.type_dict_pop (thn (ho pins s σ H _ I h) fun u s1 ⟨x, H1, I1, rx, a, ex, d, q1⟩ => ?_)
  subst ex
  obtain rfl : u = Value.ref a := rx
  obtain ⟨t1, t2, _⟩ := isD_at I1 d
  refine ⟨t1, t2, ?_⟩
  rw [m.trees]
  refine Calls.callWith_builtin rfl (Calls.evalArgs_plain (Calls.spliced_cons (thn (he pins s1 σ H1 _ I1 q1) fun iv s2 ⟨y, H2, I2, ry, q2⟩ =>
    Calls.spliced_cons (thn (hf pins s2 σ H2 _ I2 q2) fun fv s3 ⟨z, H3, I3, rz, kvs, k, ea, ey, q3, q4⟩ => Calls.spliced_nil ?_))))
  subst ey
  cases l : valV kvs k with
  | some v => exact d_pop I3 ea ry l (.inr ⟨fv, rfl⟩) fun w' s4 I4 rw' => ⟨v, _, I4, rw', q3 v l⟩
  | none => exact d_popD I3 ea ry l fun s4 I4 => ⟨z, H3, I4, rz, q4 l⟩
end

/-! ### dict(d): a copy -/
section
variable {X : Cx} {pins : List (Addr × Obj)} {σ : St} {H : Hp} {s : Shared} {a : Addr} {kvs : List (Key × V)} {A : Around} {E : Value → Shared → Prop}
end


section
variable {X : Cx} {pins : List (Addr × Obj)} {σ : St} {H : Hp} {s : Shared} {a : Addr} {y : V} {u : Value} {A : Around} {E : Value → Shared → Prop}
end
end L2

namespace L2
open PySem PySem.Spec PyProof.Rows


section
variable {prog : Program} {w : World} {A : Around} {E : Value → Shared → Prop}


end

section
variable {X : Cx}
end
end L2

namespace L2
open PySem PySem.Spec PyProof.Rows

theorem boot_reversed5 : bootBuiltins "reversed" = some (.type "reversed") := by decide +kernel

section
variable {X : Cx} {pins : List (Addr × Obj)} {σ : St} {H : Hp} {s : Shared} {h' : Heap}

/-! ### locking a thing while a statement runs -/
theorem Inv.lock {d : Addr} {u : HO} (I : Inv X pins σ H s) (h : H d = some u) (mu : Mut (some u)) : ∃ od, Inv X pins σ (upd H d (.frz od u)) s := by
  have x := I.hok d u h
  have ex : ∃ od, s.heap.get? d = some od := by
    cases u with
    | lst xs => obtain ⟨_, _, _, _, e⟩ := x; exact ⟨_, e⟩
    | dK kvs => obtain ⟨_, _, _, _, o, _, _, e, _⟩ := x; exact ⟨o, e⟩
    | dT kvs => obtain ⟨_, _, _, _, o, _, _, e, _⟩ := x; exact ⟨o, e⟩
    | set S n => obtain ⟨o, _, _, _, e, _⟩ := x; exact ⟨o, e⟩
    | ins C dx fs => obtain ⟨_, _, _, e, _⟩ := x; exact ⟨_, e⟩
    | ext φ => obtain ⟨_, ⟨_, e⟩, _⟩ := x; exact ⟨_, e⟩
    | _ => exact False.elim mu
  obtain ⟨od, e⟩ := ex
  have new : ObjOk X.prog X.w (upd H d (.frz od u)) s.heap d (.frz od u) := by
    refine ⟨e, x.stay (fun b v _ q => q) (fun b q => ?_) fun b xs q => ?_⟩
    · rw [upd_ne (fun z => by rw [z, h] at q; cases q; exact mu)]; exact q
    · rw [upd_ne (fun z => by rw [z, h] at q; cases q; exact mu)]; exact q
  exact ⟨od, I.write (x := d) (e := d) (t' := s.toks) (h' := s.heap) (by rw [h]; exact mu) (.inl rfl) (fun b v _ q => q) ⟨od, e⟩ new⟩
theorem Inv.nofrz {d : Addr} {u : HO} (I : Inv X pins σ H s) (h : H d = some u) (mu : Mut (some u)) : ∀ o' u', X.H_0 d ≠ some (.frz o' u') := fun o' u' e => by
  have q := I.base.frzs d o' u' e
  rw [h] at q
  cases q
  exact mu
theorem Inv.unlock {d : Addr} {od : Obj} {u : HO} (I : Inv X pins σ H s) (h : H d = some (.frz od u)) (hn : ∀ o' u', X.H_0 d ≠ some (.frz o' u')) : Inv X pins σ (upd H d u) s := by
  have neH : ∀ b o, H b = some o → (∀ o' u', o ≠ .frz o' u') → b ≠ d := fun b o e hne z => by
    rw [z, h] at e
    cases e
    exact hne _ _ rfl
  have neN : ∀ b, H b = none → b ≠ d := fun b e z => by rw [z, h] at e; cases e
  refine ⟨I.ok, I.os, I.bare, ⟨I.base.keep, I.base.slot, fun b o e n hx => ?_, I.base.there, fun b xs e => ?_, fun b o x e => ?_, fun b ps e => ?_⟩, I.loc, I.cell, ?_, fun x c e => ?_, fun p hp => ?_, fun b o e => ?_, I.len⟩
  · rw [upd_ne (neN b (I.base.free b o e n hx))]; exact I.base.free b o e n hx
  · have q := I.base.tups b xs e
    rw [upd_ne (neH b _ q (fun _ _ z => nomatch z))]; exact q
  · have q := I.base.frzs b o x e
    rw [upd_ne (fun z => by rw [z] at e; exact hn _ _ e)]; exact q
  · obtain ⟨m, q⟩ := I.base.tbls b ps e
    exact ⟨m, by rw [upd_ne (neH b _ q (fun _ _ z => nomatch z))]; exact q⟩
  · rw [upd_ne (neN _ I.free)]; exact I.free
  · rw [upd_ne (neN c (I.freeC x c e))]; exact I.freeC x c e
  · obtain ⟨e, n, r⟩ := I.pin p hp
    exact ⟨e, by rw [upd_ne (neN _ n)]; exact n, r⟩
  · by_cases hb : b = d
    · rw [hb, upd_same] at e
      cases e
      rw [hb]
      obtain ⟨_, x⟩ := I.hok d _ h
      exact x.stay (fun c v _ q => q) (fun c q => by rw [upd_ne (neH c _ q (fun _ _ z => nomatch z))]; exact q) fun c xs q => by rw [upd_ne (neH c _ q (fun _ _ z => nomatch z))]; exact q
    · rw [upd_ne hb] at e
      exact (I.hok b o e).stay (fun c v _ q => q) (fun c q => by rw [upd_ne (neH c _ q (fun _ _ z => nomatch z))]; exact q) fun c xs q => by rw [upd_ne (neH c _ q (fun _ _ z => nomatch z))]; exact q
end
/-- the statement runs while the thing at d is locked (read, not written); d and what stands there are the reading's choice -/
def tLock (t : TS) : TS := fun D σ H => ∃ d u, H d = some u ∧ Mut (some u) ∧ ∀ od, t ⟨fun σ' H' => H' d = some (.frz od u) ∧ D.nx σ' (upd H' d u), fun v H' => H' d = some (.frz od u) ∧ D.rt v (upd H' d u), fun σ' H' => H' d = some (.frz od u) ∧ D.bk σ' (upd H' d u), fun σ' H' => H' d = some (.frz od u) ∧ D.ct σ' (upd H' d u)⟩ σ (upd H d (.frz od u))
section
variable {X : Cx}
theorem ps_lock {st : Stmt} {t : TS} (h : PS X st t) : PS X st (tLock t) := by
  intro pins s σ H D I hw
  obtain ⟨d, u, hd, mu, hw⟩ := hw
  obtain ⟨od, I1⟩ := I.lock hd mu
  refine thn (h pins s σ _ _ I1 (hw od)) fun f s1 q => ?_
  cases f with
  | next => obtain ⟨σ', H', I2, e, q⟩ := q; exact ⟨σ', _, I2.unlock e (I.nofrz hd mu), q⟩
  | brk => obtain ⟨σ', H', I2, e, q⟩ := q; exact ⟨σ', _, I2.unlock e (I.nofrz hd mu), q⟩
  | cont => obtain ⟨σ', H', I2, e, q⟩ := q; exact ⟨σ', _, I2.unlock e (I.nofrz hd mu), q⟩
  | ret v => obtain ⟨x, σ', H', I2, r, e, q⟩ := q; exact ⟨x, σ', _, I2.unlock e (I.nofrz hd mu), r, q⟩

/-! ### one iterator just laid -/
theorem pi_one {tg : Expr} {pins : List (Addr × Obj)} {σ : St} {H : Hp} {s : Shared} {R : It → Hp → Prop} {J : It} {tn : Nat → Heap → Prop} {tk : Nat} (I : Inv X pins σ H s) (o : Obj)
    (T : Turn X.prog X.w X.K tg J [s.heap.objs.size] s.heap.objs.size tn) (st : tn 0 (s.heap.push o)) (q : R J H) : PIE X pins σ tg R (.ref s.heap.objs.size) { s with heap := s.heap.push o, toks := tk } := by
  refine ⟨s.heap.objs.size, [s.heap.objs.size], tn, J, H, rfl, I.kept fun b ob e => Heap.get?_push_of_some _ e, T, st, fun b hb => ?_, q⟩
  have e : b = s.heap.objs.size := by simpa using hb
  subst e
  exact I.fpOk (Nat.le_refl _) (I.hok.fresh (Nat.le_refl _))
end

/-! ### range with a step -/
section
variable {X : Cx} {tg : Expr}
end

/-! ### reversed(list) -/
/-- the list at a (n items at the start, which the loop leaves there), from its end -/
def Itv (K : PySem.W.Frag) (a : Addr) (n : Nat) : It :=
  ⟨fun i H => i < n ∧ ∃ (xs : List V) (x : V), SqL K H a xs ∧ xs[n - 1 - i]? = some x, fun i H x H' => H' = H ∧ ∀ xs, SqL K H a xs → xs[n - 1 - i]? = some x, fun i _ => n ≤ i⟩
theorem turn_rev {P : Program} {w : World} {K : PySem.W.Frag} {tg : Expr} (a it : Addr) (n : Nat) : Turn P w K tg (Itv K a n) [it] it (fun i h => i ≤ n ∧ h.IsRevIter it a ((n : Int) - 1 - (i : Nat))) where
  mem := by simp
  obj := fun i h st b hb => by
    have e : b = it := by simpa using hb
    subst e
    obtain ⟨_, o, e, c, d⟩ := st
    exact ⟨o, e, fun v z => by rw [d] at z; cases z⟩
  keep := fun i h h' st k => ⟨st.1, st.2.at fun o e => k it (by simp) o e⟩
  item := by
    intro X hP hw hK hc i pins s σ H E I hf st hg
    subst hP hw hK
    obtain ⟨hin, xs, x, hq, hx⟩ := hg
    obtain ⟨its, rv, p, hz⟩ := I.list hq
    obtain ⟨u, hu, ru⟩ := rv.get hx
    obtain ⟨f0, f1, f2, f3, f4, f5⟩ := hf it (by simp)
    obtain ⟨_, hit⟩ := st
    have e1 : (n : Int) - 1 - ((i : Nat) : Int) = ((n - 1 - i : Nat) : Int) := by omega
    rw [e1] at hit
    refine wpAny_pyNext_rev_item hit p.isList (x := u) (by simpa using hu) fun h' st' sb => ?_
    have e2 : ((n - 1 - i : Nat) : Int) - 1 = (n : Int) - 1 - ((i + 1 : Nat) : Int) := by omega
    rw [e2] at st'
    have I1 : Inv X pins σ H { s with heap := h' } := I.turned (t' := s.toks) (fun b o hb e => (sb.2 b hb).trans e) f0 f1 f3 f4 f5
    obtain ⟨o, e, c, d⟩ := id st'
    exact ⟨u, rfl, go_of (s := { s with heap := h' }) e c d (by decide) ⟨x, H, I1, ru, ⟨rfl, fun ys hy => by rw [I.list_inj hy hq]; exact hx⟩, ⟨hin, st'⟩, fun b hb => (hf b hb).1⟩⟩
  done := by
    intro X hP hw hK hc i pins s σ H E I hf st hg
    subst hP hw hK
    obtain ⟨f0, f1, f2, f3, f4, f5⟩ := hf it (by simp)
    obtain ⟨hin, hit⟩ := st
    have hge : n ≤ i := hg
    have e1 : (n : Int) - 1 - ((i : Nat) : Int) = -1 := by omega
    rw [e1] at hit
    exact wpAny_pyNext_rev_end (I.ok.hd hc) hit fun h' eb => ⟨rfl, I.turned (t' := s.toks) (fun b o hb e => eb b o hb e) f0 f1 f3 f4 f5⟩
  self := fun A i s Q E st h => wpAny_pyIter_revIter st.2 h
def iRev (K : PySem.W.Frag) (ta : TA) : TI := fun σ H R => ta σ H fun vs H1 => ∃ (a : Addr) (xs : List V), vs = [.ref a] ∧ SqL K H1 a xs ∧ R (Itv K a xs.length) H1
section
variable {X : Cx} {tg : Expr}
theorem pi_reversed {e : Expr} {ta : TA} {p pos : Pos} (hg : Gl X "reversed") (hm : X.mg "reversed" = none) (ha : PA X [e] ta) (hs : starEach [e] X.env = [(false, eval e X.env)] := by rfl) : PI X tg (.Call (.Name "reversed" p) [e] [] pos) (iRev X.K ta) := by
  intro pins s σ H R I h
  refine Call_ (ld_blt I hg hm boot_reversed5 (PyProof.Rows.callWith_type1 (thn (ha pos pins s σ H _ I h) fun us s1 ⟨vs, H1, I1, r1, q1⟩ => ?_) hs rfl))
  obtain ⟨a, xs, e, hq, q⟩ := q1
  subst e
  cases r1 with
  | cons r rr =>
    cases rr
    cases r
    obtain ⟨its, rv, p', hz⟩ := I1.list hq
    have hl := rv.length
    have e1 : ((its.toArray.size : Nat) : Int) - 1 = (xs.length : Int) - 1 - ((0 : Nat) : Int) := by simp only [List.size_toArray]; omega
    refine call_reversed_list p'.isList (wpAny_pyIter_revIter (l := a) (i := ((its.toArray.size : Nat) : Int) - 1) ⟨_, Heap.get?_push_size _ rfl, rfl, rfl⟩ ?_)
    refine pi_one (tk := s1.toks) I1 _ (turn_rev a _ xs.length) ⟨Nat.zero_le _, ?_⟩ q
    rw [← e1]
    exact ⟨_, Heap.get?_push_size _ rfl, rfl, rfl⟩
end

/-! ### a str -/

/-! ### a dict's keys: any dict's entries -/
section
variable {prog : Program} {w : World} {A : Around} {E : Value → Shared → Prop} {s : Shared}
theorem iter_keys {d : Addr} {o : Obj} {es : Array DictEntry} {ep : Nat} {Q : Value → Shared → Prop} (hd : (d == sysModules) = false) (ho : s.heap.get? d = some o) (hc : o.ExactDict) (hdat : o.data = .dict es ep)
    (hQ : Q (.ref s.heap.objs.size) { s with heap := s.heap.push { cls := .type "dict_keyiterator", data := .fields #[.ref d, .int 0 0, .int es.size 0, .int ep 0] } }) :
    wpAny (model prog w) A (pyIter (.ref d)) Q E s := by
  have hT : s.TypeIs (.ref d) "dict" := ⟨o, ho, hc.1⟩
  refine wpAny_pyIter_slot hT F.slot_dict_iter (wpAny_call_entry F.slot_dict_iter hT F.entry_dict_iter ?_ (F.args_dict_iter_1 _))
  unfold Builtin.«dict.__iter__»
  refine wpAny_bind ?_
  unfold Builtin.Dict.dictSlotNone
  refine wpAny_bind (wpAny_notOrdered_dict hT ?_)
  show wpAny _ _ (pure (Value.ref d)) _ _ s
  refine wpAny_pure ?_
  show wpAny _ _ (Builtin.Dict.showsAll d >>= _) _ _ s
  unfold Builtin.Dict.showsAll
  rw [if_neg (by rw [hd]; exact Bool.false_ne_true)]
  refine wpAny_bind (wpAny_pure ?_)
  refine wpAny_bind (wpAny_dictEntries ho hdat ?_)
  refine wpAny_bind (wpAny_dictEpoch ho hdat ?_)
  refine wpAny_bind (wpAny_newObj_type (wpAny_pure ⟨_, rfl, "dict_keyiterator", _, ⟨_, Heap.get?_push_size _ rfl, rfl⟩, F.slot_dict_keyiterator_next.lookup, ?_⟩))
  simpa [rawInt] using hQ
theorem next_key_item {it d : Addr} {i n ep : Nat} {od : Obj} {es : Array DictEntry} {en : DictEntry} {Q : Option Value → Shared → Prop} (hit : s.heap.IsKeyIter it d i n ep) (hod : s.heap.get? d = some od) (hdd : od.data = .dict es ep)
    (hsz : es.size = n) (hx : es[i]? = some en) (hQ : ∀ h', h'.IsKeyIter it d (i + 1) n ep → Heap.SameBut it s.heap h' → Q (some en.key) { s with heap := h' }) : wpAny (model prog w) A (pyNext (.ref it)) Q E s := by
  obtain ⟨o, ho, hc, hd⟩ := id hit
  unfold pyNext
  refine wpAny_bind (wpAny_attempt (wpAny_callSpecial?_slot (name := Str.ofString "__next__") hit.typeIs F.slot_dict_keyiterator_next
    (wpAny_call_entry F.slot_dict_keyiterator_next hit.typeIs F.entry_dict_keyiterator_next ?_ (F.args_dict_keyiterator_next_1 _))))
  refine wpAny_bind (wpAny_pure ?_)
  refine wpAny_bind ?_
  refine wpAny_bind ?_
  first | refine wpAny_bind (wpAny_typeNameOfWhole_keyiter hit.typeIs (wpAny_pure ?_)) | refine wpAny_bind (wpAny_typeNameOf_keyiter hit.typeIs (wpAny_pure ?_))
  refine wpAny_bind (wpAny_fieldsOf ho hd ?_)
  have hown : Builtin.Dict_items.ownsTuple "dict_keyiterator" = false := by decide
  simp only [hown, Bool.false_eq_true, if_false]
  show wpAny _ _ (if (Value.ref d == Value.none) = true then _ else _) _ _ s
  rw [if_neg (show ¬ ((Value.ref d == Value.none) = true) from Bool.false_ne_true)]
  refine wpAny_bind (wpAny_pure ?_)
  refine wpAny_bind (wpAny_dictEntries hod hdd ?_)
  rw [if_neg (by rw [hsz]; simp)]
  refine wpAny_bind (wpAny_pure ?_)
  refine wpAny_bind (wpAny_dictEpoch hod hdd ?_)
  rw [if_neg (by simp)]
  refine wpAny_pure ?_
  obtain ⟨hlt', hen⟩ := Array.getElem?_eq_some_iff.mp hx
  simp only [show ¬ ((i : Int) < 0) from by omega, if_false, Int.toNat_natCast, Array.getElem?_eq_getElem hlt']
  refine wpAny_bind ?_
  first | refine wpAny_bind (wpAny_typeNameOfWhole_keyiter hit.typeIs (wpAny_pure ?_)) | refine wpAny_bind (wpAny_typeNameOf_keyiter hit.typeIs (wpAny_pure ?_))
  refine wpAny_bind (wpAny_isOneOf_keyiter hit.typeIs ?_)
  show wpAny _ _ (setField (.ref it) 1 (rawInt ((i : Int) + 1)) >>= _) _ _ s
  refine wpAny_bind (wpAny_setField ho hd (by simp) ?_)
  have hit' : (s.heap.update it (Obj.mapFields (·.setIfInBounds 1 (rawInt ((i : Int) + 1))))).IsKeyIter it d (i + 1) n ep :=
    ⟨_, Heap.get?_update_self _ ho (Obj.isFreed_of_fields (Obj.data_mapFields hd _)), (Obj.cls_mapFields ..).trans hc, by rw [Obj.data_mapFields hd]; simp [rawInt]⟩
  refine wpAny_bind (wpAny_holding ?_)
  refine wpAny_bind (wpAny_isOneOf_keyiter (s := { s with heap := s.heap.update it (Obj.mapFields (·.setIfInBounds 1 (rawInt ((i : Int) + 1)))) }) hit'.typeIs ?_)
  show wpAny _ _ (pure es[i].key) _ _ _
  rw [hen]
  exact wpAny_pure (wpAny_pure ⟨_, rfl, wpAny_pure (hQ _ hit' (Heap.SameBut.update ..))⟩)
theorem next_key_end {it d : Addr} {i n ep : Nat} {od : Obj} {es : Array DictEntry} {Q : Option Value → Shared → Prop} (hh : A.handled = none) (hit : s.heap.IsKeyIter it d i n ep) (hod : s.heap.get? d = some od) (hdd : od.data = .dict es ep)
    (hsz : es.size = n) (hge : n ≤ i) (hQ : ∀ h', Heap.ExtBut it s.heap h' → Q none { s with heap := h' }) : wpAny (model prog w) A (pyNext (.ref it)) Q E s := by
  obtain ⟨o, ho, hc, hd⟩ := id hit
  unfold pyNext
  refine wpAny_bind (wpAny_attempt (wpAny_callSpecial?_slot (name := Str.ofString "__next__") hit.typeIs F.slot_dict_keyiterator_next
    (wpAny_call_entry F.slot_dict_keyiterator_next hit.typeIs F.entry_dict_keyiterator_next ?_ (F.args_dict_keyiterator_next_1 _))))
  refine wpAny_bind (wpAny_pure ?_)
  refine wpAny_bind ?_
  refine wpAny_bind ?_
  first | refine wpAny_bind (wpAny_typeNameOfWhole_keyiter hit.typeIs (wpAny_pure ?_)) | refine wpAny_bind (wpAny_typeNameOf_keyiter hit.typeIs (wpAny_pure ?_))
  refine wpAny_bind (wpAny_fieldsOf ho hd ?_)
  have hown : Builtin.Dict_items.ownsTuple "dict_keyiterator" = false := by decide
  simp only [hown, Bool.false_eq_true, if_false]
  show wpAny _ _ (if (Value.ref d == Value.none) = true then _ else _) _ _ s
  rw [if_neg (show ¬ ((Value.ref d == Value.none) = true) from Bool.false_ne_true)]
  refine wpAny_bind (wpAny_pure ?_)
  refine wpAny_bind (wpAny_dictEntries hod hdd ?_)
  rw [if_neg (by rw [hsz]; simp)]
  refine wpAny_bind (wpAny_pure ?_)
  refine wpAny_bind (wpAny_dictEpoch hod hdd ?_)
  rw [if_neg (by simp)]
  refine wpAny_pure ?_
  have hge' : es.size ≤ i := by rw [hsz]; exact hge
  simp only [show ¬ ((i : Int) < 0) from by omega, if_false, Int.toNat_natCast, Array.getElem?_eq_none hge']
  refine wpAny_bind ?_
  first | refine wpAny_bind (wpAny_typeNameOfWhole_keyiter hit.typeIs (wpAny_pure ?_)) | refine wpAny_bind (wpAny_typeNameOf_keyiter hit.typeIs (wpAny_pure ?_))
  show wpAny _ _ (setField (.ref it) 0 .none >>= _) _ _ s
  refine wpAny_bind (wpAny_setField ho hd (by simp) ?_)
  show wpAny _ _ (newExc (.type "StopIteration") [] >>= _) _ _ _
  refine wpAny_bind ?_
  simp only [newExc, newTuple]
  refine wpAny_bind (wpAny_newObj_type ?_ (by size_fits))
  refine wpAny_bind (m := firstArgMember _ _) (wpAny_of_eq (a := Value.none) (by first | rfl | (simp only [firstArgMember]; rfl)) ?_)
  refine wpAny_newObj_type ?_ (by size_fits)
  simp only [raiseNew]
  refine wpAny_bind (wpAny_handled ?_)
  rw [show A.in1.handled = none from hh]
  refine wpAny_bind (wpAny_pure (wpAny_throw ?_))
  refine wpAny_bind (wpAny_isInstance (T := "StopIteration") (b := true) ⟨_, Heap.get?_push_size _ rfl, rfl⟩ isSubtype_stop ?_)
  exact wpAny_pure (hQ _ (((Heap.SameBut.update ..).extBut.push _).push _))
end

/-! ### a locked dict -/
theorem kv_get {κ : Type} {kvs : List (κ × V)} {vs : List (κ × Value)} (h : KV kvs vs) : ∀ {i : Nat} {k : κ} {v : V}, kvs[i]? = some (k, v) → ∃ u, vs[i]? = some (k, u) ∧ RelV v u := by
  unfold KV at h
  induction h with
  | nil => intro i k v e; simp at e
  | @cons a b l₁ l₂ r t ih =>
    intro i k v e
    cases i with
    | zero =>
      simp only [List.getElem?_cons_zero, Option.some.injEq] at e
      subst e
      refine ⟨b.2, ?_, r.2⟩
      simp only [List.getElem?_cons_zero]
      exact congrArg some (Prod.ext r.1.symm rfl)
    | succ j =>
      simp only [List.getElem?_cons_succ] at e ⊢
      exact ih e
theorem paired_get {α β : Type} {G : α → β → Prop} {l₁ : List α} {l₂ : List β} (h : Paired G l₁ l₂) : ∀ {i : Nat} {a : α}, l₁[i]? = some a → ∃ b, l₂[i]? = some b ∧ G a b := by
  induction h with
  | nil => intro i a e; simp at e
  | @cons a b l₁ l₂ r t ih =>
    intro i a' e
    cases i with
    | zero =>
      simp only [List.getElem?_cons_zero, Option.some.injEq] at e
      subst e
      exact ⟨b, rfl, r⟩
    | succ j =>
      simp only [List.getElem?_cons_succ] at e ⊢
      exact ih e
theorem relV_key {k : Key} {u : Value} (h : keyIs k u = true) : RelV (kV k) u := by
  rcases keyIs_shape h with ⟨i, t, rfl, rfl⟩ | ⟨x, t, rfl, rfl⟩
  · exact ⟨t, rfl⟩
  · exact ⟨t, rfl⟩
section
variable {X : Cx} {pins : List (Addr × Obj)} {σ : St} {H : Hp} {s : Shared} {d : Addr} {o : Obj}
theorem Inv.frzK {kvs : List (Key × V)} (I : Inv X pins σ H s) (h : H d = some (.frz o (.dK kvs))) :
    (d == sysModules) = false ∧ s.heap.get? d = some o ∧ o.ExactDict ∧ ∃ (es : Array DictEntry) (ep : Nat) (vs : List (Key × Value)), o.data = .dict es ep ∧ es.size = kvs.length ∧ KV kvs vs ∧ s.heap.DictAt (mixKind X.prog X.w) d vs ep := by
  obtain ⟨hd, z, hs, vs, kv, o', es, ep, ho, hx, hdt, r⟩ := I.hok d _ h
  rw [hd] at ho
  cases ho
  refine ⟨hs, hd, hx, es, ep, vs, hdt, ?_, kv, o, es, hd, hx, hdt, r⟩
  have l1 := r.2.1.length
  have l2 : kvs.length = vs.length := Paired.length kv
  rw [Array.length_toList] at l1
  omega
/-- the same for tuple keys -/
theorem Inv.frzT {kvs : List (List Key × V)} (I : Inv X pins σ H s) (h : H d = some (.frz o (.dT kvs))) :
    (d == sysModules) = false ∧ s.heap.get? d = some o ∧ o.ExactDict ∧ ∃ (es : Array DictEntry) (ep : Nat), o.data = .dict es ep ∧ es.size = kvs.length ∧
      ∀ (i : Nat) (k : List Key) (v : V), kvs[i]? = some (k, v) → ∃ (en : DictEntry) (q : Addr), es[i]? = some en ∧ en.key = .ref q ∧ H q = some (.tup (k.map kV)) := by
  obtain ⟨hd, z, hs, xs, pr, o', es, ep, ho, hx, hdt, he, _⟩ := I.hok d _ h
  rw [hd] at ho
  cases ho
  refine ⟨hs, hd, hx, es, ep, hdt, ?_, fun i k v e => ?_⟩
  · have l1 : es.size = xs.length := size_of_entries he
    have l2 : kvs.length = xs.length := Paired.length pr
    omega
  · obtain ⟨b, hb, e1, e2, _⟩ := paired_get pr e
    have q := entry_at he i
    rw [hb] at q
    exact ⟨_, b.2.1, q, rfl, e2⟩
end

/-- the keys of the locked dict at d, in their order -/
def Itk (d : Addr) (o : Obj) (kvs : List (Key × V)) : It :=
  ⟨fun i H => H d = some (.frz o (.dK kvs)) ∧ i < kvs.length, fun i H x H' => H' = H ∧ ∃ k v, kvs[i]? = some (k, v) ∧ x = kV k, fun i H => H d = some (.frz o (.dK kvs)) ∧ kvs.length ≤ i⟩
/-- .. of tuple keys: the key's own tuple -/
def Itkt (d : Addr) (o : Obj) (kvs : List (List Key × V)) : It :=
  ⟨fun i H => H d = some (.frz o (.dT kvs)) ∧ i < kvs.length, fun i H x H' => H' = H ∧ ∃ (k : List Key) (v : V) (q : Addr), kvs[i]? = some (k, v) ∧ x = .ref q ∧ H q = some (.tup (k.map kV)), fun i H => H d = some (.frz o (.dT kvs)) ∧ kvs.length ≤ i⟩
theorem dict_ep {o : Obj} {es es' : Array DictEntry} {ep ep' : Nat} (h : o.data = .dict es ep) (h' : o.data = .dict es' ep') : es' = es ∧ ep' = ep := by
  rw [h] at h'
  cases h'
  exact ⟨rfl, rfl⟩
section
variable {P : Program} {w : World} {K : PySem.W.Frag} {tg : Expr} {d : Addr} {o : Obj} {es : Array DictEntry} {ep : Nat}
theorem turn_keys {kvs : List (Key × V)} (it : Addr) (hod : o.data = .dict es ep) : Turn P w K tg (Itk d o kvs) [it] it (fun i h => h.IsKeyIter it d i kvs.length ep) where
  mem := by simp
  obj := fun i h st b hb => by
    have e : b = it := by simpa using hb
    subst e
    obtain ⟨oi, e, c, dd⟩ := st
    exact ⟨oi, e, fun v z => by rw [dd] at z; cases z⟩
  keep := fun i h h' st k => st.at fun oi e => k it (by simp) oi e
  item := by
    intro X hP hw hK hc i pins s σ H E I hf st hg
    subst hP hw hK
    obtain ⟨hd, hi⟩ := hg
    obtain ⟨f0, f1, f2, f3, f4, f5⟩ := hf it (by simp)
    obtain ⟨hs, hgd, hx, es', ep', vs, hdt, hsz, kv, hm⟩ := I.frzK hd
    obtain ⟨rfl, rfl⟩ := dict_ep hod hdt
    obtain ⟨⟨k, v⟩, hkv⟩ : ∃ p, kvs[i]? = some p := ⟨kvs[i], List.getElem?_eq_getElem hi⟩
    obtain ⟨u, hu, ru⟩ := kv_get kv hkv
    have hl : kvs.length = vs.length := Paired.length kv
    rw [hl] at st
    refine wpAny_pyNext_dict_item st hm hu fun key h' hkey st' sb => ?_
    have I1 : Inv X pins σ H { s with heap := h' } := I.turned (t' := s.toks) (fun b ob hb e => (sb.2 b hb).trans e) f0 f1 f3 f4 f5
    obtain ⟨oi, e, c, dd⟩ := id st'
    refine ⟨key, rfl, go_of (s := { s with heap := h' }) e c dd (by decide) ⟨kV k, H, I1, relV_key (show keyIs k key = true from hkey), ⟨rfl, k, v, hkv, rfl⟩, ?_, fun b hb => (hf b hb).1⟩⟩
    show h'.IsKeyIter it d (i + 1) kvs.length _
    rw [hl]
    exact st'
  done := by
    intro X hP hw hK hc i pins s σ H E I hf st hg
    subst hP hw hK
    obtain ⟨hd, hi⟩ := hg
    obtain ⟨f0, f1, f2, f3, f4, f5⟩ := hf it (by simp)
    obtain ⟨hs, hgd, hx, es', ep', vs, hdt, hsz, kv, hm⟩ := I.frzK hd
    obtain ⟨rfl, rfl⟩ := dict_ep hod hdt
    exact next_key_end (I.ok.hd hc) st hgd hdt hsz hi fun h' eb => ⟨rfl, I.turned (t' := s.toks) (fun b ob hb e => eb b ob hb e) f0 f1 f3 f4 f5⟩
  self := fun A i s Q E st h => wpAny_pyIter_keyiter st h
theorem turn_keysT {kvs : List (List Key × V)} (it : Addr) (hod : o.data = .dict es ep) : Turn P w K tg (Itkt d o kvs) [it] it (fun i h => h.IsKeyIter it d i kvs.length ep) where
  mem := by simp
  obj := fun i h st b hb => by
    have e : b = it := by simpa using hb
    subst e
    obtain ⟨oi, e, c, dd⟩ := st
    exact ⟨oi, e, fun v z => by rw [dd] at z; cases z⟩
  keep := fun i h h' st k => st.at fun oi e => k it (by simp) oi e
  item := by
    intro X hP hw hK hc i pins s σ H E I hf st hg
    subst hP hw hK
    obtain ⟨hd, hi⟩ := hg
    obtain ⟨f0, f1, f2, f3, f4, f5⟩ := hf it (by simp)
    obtain ⟨hs, hgd, hx, es', ep', hdt, hsz, ent⟩ := I.frzT hd
    obtain ⟨rfl, rfl⟩ := dict_ep hod hdt
    obtain ⟨⟨k, v⟩, hkv⟩ : ∃ p, kvs[i]? = some p := ⟨kvs[i], List.getElem?_eq_getElem hi⟩
    obtain ⟨en, q, hen, hkey, hq⟩ := ent i k v hkv
    refine next_key_item st hgd hdt hsz hen fun h' st' sb => ?_
    have I1 : Inv X pins σ H { s with heap := h' } := I.turned (t' := s.toks) (fun b ob hb e => (sb.2 b hb).trans e) f0 f1 f3 f4 f5
    obtain ⟨oi, e, c, dd⟩ := id st'
    exact ⟨en.key, rfl, go_of (s := { s with heap := h' }) e c dd (by decide) ⟨.ref q, H, I1, hkey, ⟨rfl, k, v, q, hkv, rfl, hq⟩, st', fun b hb => (hf b hb).1⟩⟩
  done := by
    intro X hP hw hK hc i pins s σ H E I hf st hg
    subst hP hw hK
    obtain ⟨hd, hi⟩ := hg
    obtain ⟨f0, f1, f2, f3, f4, f5⟩ := hf it (by simp)
    obtain ⟨hs, hgd, hx, es', ep', hdt, hsz, ent⟩ := I.frzT hd
    obtain ⟨rfl, rfl⟩ := dict_ep hod hdt
    exact next_key_end (I.ok.hd hc) st hgd hdt hsz hi fun h' eb => ⟨rfl, I.turned (t' := s.toks) (fun b ob hb e => eb b ob hb e) f0 f1 f3 f4 f5⟩
  self := fun A i s Q E st h => by
    refine wpAny_pyIter_slot st.typeIs F.slot_dict_keyiterator_iter (wpAny_call_entry F.slot_dict_keyiterator_iter st.typeIs F.entry_dict_keyiterator_iter ?_ (F.args_dict_keyiterator_iter_1 _))
    show wpAny _ _ (ret (.ref it)) _ _ s
    exact wpAny_pure ⟨_, rfl, "dict_keyiterator", _, st.typeIs, F.slot_dict_keyiterator_next.lookup, h⟩
end

/-! ### for k in d, d.keys(), d.values(), d.items() -/
/-- the dict is locked (tLock, or by the caller) -/
def iKeys (td : TE) : TI := fun σ H R => td σ H fun x H1 => ∃ d o, x = .ref d ∧ ((∃ kvs, H1 d = some (.frz o (.dK kvs)) ∧ R (Itk d o kvs) H1) ∨ ∃ kvs, H1 d = some (.frz o (.dT kvs)) ∧ R (Itkt d o kvs) H1)
section
variable {X : Cx} {tg e : Expr} {td : TE} {apos cpos : Pos}
theorem pi_keys (he : PE X e td) : PI X tg e (iKeys td) := by
  intro pins s σ H R I h
  refine thn (he pins s σ H _ I h) fun u s1 ⟨x, H1, I1, rx, d, o, ex, q⟩ => ?_
  subst ex
  obtain rfl : u = Value.ref d := rx
  rcases q with ⟨kvs, hd, q⟩ | ⟨kvs, hd, q⟩
  · obtain ⟨hs, hgd, hx, es, ep, vs, hdt, hsz, kv, hm⟩ := I1.frzK hd
    refine iter_keys hs hgd hx hdt (pi_one (tk := s1.toks) I1 _ (turn_keys _ hdt) ⟨_, Heap.get?_push_size _ rfl, rfl, ?_⟩ q)
    rw [hsz] <;> rfl
  · obtain ⟨hs, hgd, hx, es, ep, hdt, hsz, ent⟩ := I1.frzT hd
    refine iter_keys hs hgd hx hdt (pi_one (tk := s1.toks) I1 _ (turn_keysT _ hdt) ⟨_, Heap.get?_push_size _ rfl, rfl, ?_⟩ q)
    rw [hsz] <;> rfl
end

/-! ### enumerate(list) -/
/-! ### zip(list, list) -/
end L2

section 
namespace Bits
open PySem PyProof.Rows




/-- x & ((1 << k) - 1) -/
theorem bitAnd_mask {x : Int} (k : Nat) (hx : 0 ≤ x) : Builtin.bitAnd x (2 ^ k - 1) = x % 2 ^ k := by
  obtain ⟨n, rfl⟩ := Int.eq_ofNat_of_zero_le hx
  have hp : 0 < 2 ^ k := Nat.two_pow_pos k
  rw [two_pow_cast]
  have e : ((2 ^ k : Nat) : Int) - 1 = ((2 ^ k - 1 : Nat) : Int) := by
    generalize (2 : Nat) ^ k = m at hp
    omega
  rw [e, bitAnd_pp (by omega) (by omega), Int.toNat_natCast, Int.toNat_natCast, Nat.and_two_pow_sub_one_eq_mod]
  first
    | rfl
    | exact Int.natCast_emod _ _
    | simp


theorem nat_xor_add_and (m : Nat) : ∀ n : Nat, (m ^^^ n) + 2 * (m &&& n) = m + n := by
  induction m using Nat.strongRecOn with
  | _ m ih =>
    intro n
    by_cases h0 : m = 0
    · subst h0
      simp
    · have ih' := ih (m / 2) (by omega) (n / 2)
      rw [← Nat.xor_div_two, ← Nat.and_div_two] at ih'
      have o1 := @Nat.xor_mod_two_eq_one m n
      have a1 := @Nat.and_mod_two_eq_one m n
      omega

theorem bitXor_pp {x y : Int} (hx : 0 ≤ x) (hy : 0 ≤ y) : Builtin.bitXor x y = ((x.toNat ^^^ y.toNat : Nat) : Int) := by
  have e := nat_xor_add_and x.toNat y.toNat
  rw [bitXor_and, bitAnd_pp hx hy]
  omega

end Bits
end 

section 
namespace TL
open PySem PySem.Builtin PySem.Builtin.Str PySem.StrLaws


/-! ### the list functions -/




/-! ### the model's split and partition are these -/




/-! ### computing spl and par -/


/-! ### digits -/

/-! ### words: x.split() -/
end TL
end 

namespace L2
open PySem PySem.Spec PyProof.Rows




section
variable {X : Cx} {pins : List (Addr × Obj)} {σ : St} {H : Hp} {s : Shared} {Q : VK}
end

section
variable {X : Cx}





/-! ### of a text alone -/

/-! ### of a text and a text -/

end

section
variable {X : Cx} {o e : Expr} {to te : TE}

end
end L2

namespace L2
open PySem PySem.Spec PyProof.Rows

section
variable {X : Cx}
end

/-! ### slices of a text -/


end L2

namespace Att
open PySem PySem.W PySem.Calls PyProof.Rows

/-! ### the script -/



/-! ### the attachment: holds_open's last premise (the goal 'hc' behind k_head) from a wpAny of the law's body -/



/-! ### rules over ANY heap (no ledger) from facts about the written part K: the library's own take a ledger (News) for what they write -/
section
variable {prog : Program} {w : World} {A : Around} {E : Value → Shared → Prop} {s : Shared} {K : Frag}





/-! the whole heap as the ledger: makes every rule that writes through a ledger a rule over any heap -/

end
end Att

namespace L2
open PySem PySem.Spec PyProof.Rows



end L2

namespace L2
open PySem PySem.Spec PyProof.Rows

abbrev KOf {K : PySem.W.Frag} {h : Heap} (_ : K.In h) : PySem.W.Frag := K

end L2

/- THE LAST THEOREM (shape; LID, My.* are yours):
   My.Adr: a structure of the addresses that your layer names (classes, functions); My.Txt K t: a structure (Prop) of the equations over K;
   My.txt_mk : {K} {implicit addresses ..} (e1 : nsIn K mainGlobals "law" = some (some (.ref f))) (e2 : K.lookup f = some ⟨oc, od, .func (fnOf "law" "law" params body scope dV kV doc pm an cdv ct), sl⟩) (e3 : codeIn K cdv "law" = true) .. : ∃ t, My.Txt K t

set_option maxRecDepth 100000 in
set_option maxHeartbeats 0 in
theorem PySem.Challenge.cw_LID_holds : PySem.Challenge.rw_LID.Holds := by
  w_on; o_law; k_head; (case hw => w_witness2)
  k_fill
  refine L2.walk_of (l := PySem.Challenge.rw_LID) (n := 63) (k := 40) (x := "script") (CX := fun w => ..) (sp := fun _ => My.sp_law) rfl (by decide) rfl ⟨rfl, by decide, by decide⟩ (fun w h Y => PySem.W.kIn_of Y) ?F ?S ?C
  case F =>
    intro w mg fa h KX G hmg
    have T : ∃ t, My.Txt (L2.KOf KX) t := by
      dsimp only [L2.KOf]                          -- K must stand as «<heap const> w.params» for k_is
      refine' My.txt_mk ?e1 ?e2 ?e3 ..
      (case e1 => PySem.W.k_is)                    -- in the order: a name -> its address -> its object -> its parts
      (case e2 => PySem.W.k_is)
      ..
    obtain ⟨t, T⟩ := T
    have e0 := hmg.symm.trans (PySem.W.mg_of KX G T.law)
    cases e0                                       -- fa is the law's own address
    exact ⟨_, fun s u => .of_eq rfl, fun base kb nb => My.law_fn T kb nb⟩     -- if «.of_eq rfl» comes too early: refine' ⟨_, ?b, fun base kb nb => My.law_fn T kb nb⟩; exact fun s u => .of_eq rfl
  case S => exact fun w H a ns hl hO hS => ..
  case C => exact ..
(the tactic k_is has no namespace: write k_is) -/

/-! SHORT WORDS over the layer: a def of the text, its body, what a loop and a test want. -/
namespace L2
open PySem PySem.Spec PyProof.Rows

/-! ### the text by places -/
/-- the j-th statement of a class's body -/
def inClass (s : Stmt) (j : Nat) : Stmt := match s with
  | .ClassDef _ _ _ body _ _ _ _ _ _ _ => body.getD j (.Pass ⟨0, 0, 0, 0⟩)
  | _ => .Pass ⟨0, 0, 0, 0⟩
def defArgs (s : Stmt) : Arguments := match s with
  | .FunctionDef _ a _ _ _ _ _ _ _ _ => a
  | _ => { posonlyargs := [], args := [], vararg := none, kwonlyargs := [], kw_defaults := [], kwarg := none, defaults := [] }
def defBody (s : Stmt) : List Stmt := match s with
  | .FunctionDef _ _ b _ _ _ _ _ _ _ => b
  | _ => []
def defScope (s : Stmt) : Scope := match s with
  | .FunctionDef _ _ _ _ _ _ sc _ _ _ => sc
  | _ => { kind := .function, names := [], isGenerator := false, isCoroutine := false }

/-! ### no exception leaves a def -/
abbrev CX0 : CXT := fun _ _ _ _ _ _ => False
abbrev E0 : XK := fun _ _ _ => False
theorem pass0 {X : Cx} : Passes CX0 X E0 := fun _ _ _ _ _ _ _ h => h.elim

/-! ### a def (or method) of the text as it stands behind the top -/
structure Fun (K : PySem.W.Frag) (x qual : Str) (st : Stmt) (f : Addr) (fd : FuncData) : Prop where
  ex : ∃ (oc : Value) (od : Option Addr) (kV doc pm : Value) (an : Option Addr) (cdv ct : Value) (osl : Array (Option Value)),
    fd = PySem.W.fnOf x qual (defArgs st) (defBody st) (defScope st) .none kV doc pm an cdv ct ∧ K.lookup f = some ⟨oc, od, .func fd, osl⟩ ∧ PySem.W.codeIn K cdv qual = true
  kp : PySem.W.keepIn K (.ref f) = true
section
variable {P : Program} {w : World} {K : PySem.W.Frag} {mg : Str → Option Value} {base : Heap}
/-- THE RULE for a def: its body as a term of rules, and the reading of that term -/
theorem Fun.ok {x qual : Str} {st : Stmt} {f : Addr} {fd : FuncData} {N ps : List Str} {k : Nat} {sp : Sp} (F : Fun K x qual st f fd) (S : FnScope N ps (defScope st)) (len : ∀ vs H Q E, sp vs H Q E → vs.length = ps.length)
    (hbody : ∀ (cdv : Value) (A : Around) (outer : List Env) (s : Shared) (H : Hp) (vs : List V) (Q : VK) (E : XK), Room k (A.deeper (envOfC qual (defScope st) s.heap.objs.size f cdv)) → sp vs H Q E →
      ∃ t, PSs (cxOf CX0 P w K mg base N qual (defScope st) f cdv A outer s H E).nox (defBody st) t ∧ t { nx := fun _ H' => Q .non H', rt := Q } (start N vs) H) : FnOk P w K mg base CX0 (k + 1) f fd ps sp := by
  obtain ⟨oc, od, kV, doc, pm, an, cdv, ct, osl, rfl, lk, hcd⟩ := F.ex
  refine fn_of lk hcd S len fun A outer s H vs Q E hr hsp => ?_
  obtain ⟨t, h, q⟩ := hbody cdv A outer s H vs Q E hr hsp
  exact ⟨t, h.nox, q⟩
/-- how its arguments bind (no defaults): h is «fun _ _ _ _ _ _ us hl => match us, hl with | [_, _], _ => rfl», one _ a parameter -/
theorem Fun.binds {x qual : Str} {st : Stmt} {f : Addr} {fd : FuncData} {ps : List Str} (F : Fun K x qual st f fd)
    (h : ∀ (kV doc pm : Value) (an : Option Addr) (cdv ct : Value) (us : List Value), us.length = ps.length → bindArgs (PySem.W.fnOf x qual (defArgs st) (defBody st) (defScope st) .none kV doc pm an cdv ct) ⟨us, []⟩ = pure (ps.zip us)) : Binds K fd ps [] := by
  obtain ⟨oc, od, kV, doc, pm, an, cdv, ct, osl, rfl, lk, hcd⟩ := F.ex
  exact .all (h kV doc pm an cdv ct)
theorem fun_mk {x qual : Str} {st : Stmt} {f : Addr} {oc : Value} {od an : Option Addr} {osl : Array (Option Value)} {kV doc pm cdv ct : Value} (l : K.lookup f = some ⟨oc, od, .func (PySem.W.fnOf x qual (defArgs st) (defBody st) (defScope st) .none kV doc pm an cdv ct), osl⟩)
    (c : PySem.W.codeIn K cdv qual = true) (k : PySem.W.keepIn K (.ref f) = true) : Fun K x qual st f (PySem.W.fnOf x qual (defArgs st) (defBody st) (defScope st) .none kV doc pm an cdv ct) := ⟨⟨oc, od, kV, doc, pm, an, cdv, ct, osl, rfl, l, c⟩, k⟩
end
theorem hu_of {A : Around} {k : Nat} (hr : Room k A) : A.units + 1 < cLine := Nat.lt_of_le_of_lt (Nat.add_le_add_left (by decide : 1 ≤ 64) _) hr.units
theorem small1000 {n : Nat} (h : n ≤ 1000) : n < sizeLine := Nat.lt_of_le_of_lt h (by decide)

/-! ### expressions in short: the name that stands in the i-th slot -/
section
variable {X : Cx}
theorem pv (i : Nat) {x : Str} {pos : Pos} (hN : X.N[i]? = some x := by rfl) (hv : Vis X.env.scope x := by first | exact Or.inl rfl | exact Or.inr (Or.inl rfl) | exact Or.inr (Or.inr rfl)) (hd : (x == ("__debug__" : Str)) = false := by decide)
    (hcd : (x == ("__classdict__" : Str)) = false := by decide) : PE X (.Name x pos) (tVar i) := pe_var hN hv hd hcd
end

/-! ### tests -/
theorem iteF {A B : Prop} (h : B) : if false = true then A else B := by
  rw [if_neg Bool.false_ne_true]
  exact h
theorem iteT {A B : Prop} (h : A) : if true = true then A else B := by
  rw [if_pos rfl]
  exact h
theorem ite2 {c A B : Prop} [Decidable c] (h1 : c → A) (h2 : ¬ c → B) : if c then A else B := by
  by_cases h : c
  · rw [if_pos h]
    exact h1 h
  · rw [if_neg h]
    exact h2 h

/-! ### heaps -/
/-- all that was tracked is as it was -/
def Same (H H' : Hp) : Prop := ∀ b o, H b = some o → H' b = some o
theorem Same.refl (H : Hp) : Same H H := fun _ _ h => h
theorem Same.trans {H H1 H2 : Hp} (a : Same H H1) (b : Same H1 H2) : Same H H2 := fun c o h => b c o (a c o h)
theorem Same.free {H H' : Hp} (e : Same H H') {l : Addr} (h : H' l = Option.none) : H l = Option.none := by
  cases q : H l with
  | none => rfl
  | some o =>
    rw [e l o q] at h
    cases h
theorem Same.seq {K : PySem.W.Frag} {H H' : Hp} {a : Addr} {xs : List V} (e : Same H H') (h : SqL K H a xs) : SqL K H' a xs := by
  rcases h with (h | ⟨o, h⟩) | h
  · exact .inl (.inl (e _ _ h))
  · exact .inl (.inr ⟨o, e _ _ h⟩)
  · exact .inr h

/-! ### a dict's pairs: keys that differ -/
section
variable {κ : Type} [DecidableEq κ]
theorem valV_not {kvs : List (κ × V)} {k : κ} (h : valV kvs k = none) : ¬ k ∈ kvs.map (·.1) := by
  intro m
  obtain ⟨p, hp, e⟩ := List.mem_map.mp m
  have q : (kvs.any fun kv => decide (kv.1 = k)) = true := List.any_eq_true.mpr ⟨p, hp, decide_eq_true e⟩
  rw [valV_any, h] at q
  exact absurd q (by simp)
theorem valV_in {kvs : List (κ × V)} {k : κ} {v : V} (h : valV kvs k = some v) : k ∈ kvs.map (·.1) := by
  have q : (kvs.any fun kv => decide (kv.1 = k)) = true := by
    rw [valV_any, h]
    all_goals rfl
  obtain ⟨p, hp, e⟩ := List.any_eq_true.mp q
  exact List.mem_map.mpr ⟨p, hp, of_decide_eq_true e⟩
theorem nd_snoc : ∀ {l : List κ} {k : κ}, l.Nodup → ¬ k ∈ l → (l ++ [k]).Nodup
  | [], k, _, _ => by simp
  | a :: r, k, h, hk => by
    obtain ⟨h1, h2⟩ := List.nodup_cons.mp h
    show (a :: (r ++ [k])).Nodup
    refine List.nodup_cons.mpr ⟨fun m => ?_, nd_snoc h2 fun m => hk (List.mem_cons.mpr (Or.inr m))⟩
    rcases List.mem_append.mp m with q | q
    · exact h1 q
    · exact hk (List.mem_cons.mpr (Or.inl (List.mem_singleton.mp q).symm))
theorem nd_putK {kvs : List (κ × V)} {k : κ} (v : V) (hn : (kvs.map (·.1)).Nodup) (h : valV kvs k = none) : ((putK kvs k v).map (·.1)).Nodup := by
  rw [putK_new v h, List.map_append]
  exact nd_snoc hn (valV_not h)
theorem dropK_pos {p : κ × V} {r : List (κ × V)} {k : κ} (e : p.1 = k) : dropK (p :: r) k = dropK r k := by
  unfold dropK
  rw [List.filter_cons, if_neg (by simp [e])]
theorem dropK_neg {p : κ × V} {r : List (κ × V)} {k : κ} (e : ¬ p.1 = k) : dropK (p :: r) k = p :: dropK r k := by
  unfold dropK
  rw [List.filter_cons, if_pos (by simp [e])]
theorem dropK_no : ∀ {kvs : List (κ × V)} {k : κ}, ¬ k ∈ kvs.map (·.1) → dropK kvs k = kvs
  | [], _, _ => rfl
  | p :: r, k, h => by
    have h' : ¬ k ∈ r.map (·.1) := fun m => by
      obtain ⟨q, hq, e⟩ := List.mem_map.mp m
      exact h (List.mem_map.mpr ⟨q, List.mem_cons.mpr (Or.inr hq), e⟩)
    rw [dropK_neg fun e => h (List.mem_map.mpr ⟨p, List.mem_cons.mpr (Or.inl rfl), e⟩), dropK_no h']
theorem dropK_mem {kvs : List (κ × V)} {k : κ} {p : κ × V} (h : p ∈ dropK kvs k) : p ∈ kvs := (List.mem_filter.mp h).1
theorem nd_dropK : ∀ {kvs : List (κ × V)} {k : κ}, (kvs.map (·.1)).Nodup → ((dropK kvs k).map (·.1)).Nodup
  | [], _, _ => List.nodup_nil
  | p :: r, k, h => by
    have h : (p.1 :: r.map (·.1)).Nodup := h
    obtain ⟨h1, h2⟩ := List.nodup_cons.mp h
    by_cases e : p.1 = k
    · rw [dropK_pos e]
      exact nd_dropK h2
    · rw [dropK_neg e]
      show (p.1 :: (dropK r k).map (·.1)).Nodup
      refine List.nodup_cons.mpr ⟨fun m => h1 ?_, nd_dropK h2⟩
      obtain ⟨q, hq, eq⟩ := List.mem_map.mp m
      exact List.mem_map.mpr ⟨q, dropK_mem hq, eq⟩
theorem dropK_len : ∀ {kvs : List (κ × V)} {k : κ}, (kvs.map (·.1)).Nodup → k ∈ kvs.map (·.1) → (dropK kvs k).length + 1 = kvs.length
  | [], _, _, m => by simp at m
  | p :: r, k, h, m => by
    have h : (p.1 :: r.map (·.1)).Nodup := h
    have m : k = p.1 ∨ k ∈ r.map (·.1) := List.mem_cons.mp m
    obtain ⟨h1, h2⟩ := List.nodup_cons.mp h
    by_cases e : p.1 = k
    · subst e
      rw [dropK_pos rfl, dropK_no h1]
      all_goals rfl
    · have m' : k ∈ r.map (·.1) := m.resolve_left fun z => e z.symm
      have q := dropK_len h2 m'
      rw [dropK_neg e, List.length_cons, List.length_cons]
      omega
end
/-! ### lists -/
theorem at_of {xs : List V} {z : Int} {j : Nat} {v : V} (e : z = (j : Int)) (h : xs[j]? = some v) : atI xs z = some v := by
  rw [e]
  exact atI_nat h
theorem nd_ix {α : Type} {l : List α} (hN : l.Nodup) {i j : Nat} {x : α} (a : l[i]? = some x) (b : l[j]? = some x) : i = j := by
  obtain ⟨h1, e1⟩ := List.getElem?_eq_some_iff.mp a
  obtain ⟨h2, e2⟩ := List.getElem?_eq_some_iff.mp b
  exact (List.getElem_inj hN).mp (e1.trans e2.symm)
/-- a new instance and its __init__ leave all that was tracked as it was -/
theorem Same.made {H H1 : Hp} {x dx C : Addr} (nx : H x = Option.none) (nd : H dx = Option.none) (k : ∀ b o, (upd (upd H dx (.own x)) x (.ins C dx [])) b = some o → b ≠ x → H1 b = some o) : Same H H1 := fun b o e =>
  k b o (by rw [upd_ne (ne_of_none e nx), upd_ne (ne_of_none e nd)]; exact e) (ne_of_none e nx)
end L2

section
set_option maxHeartbeats 2000000
namespace L2
open PySem PySem.Spec PyProof.Rows
open PySem.W (WData Codec OpenSpec Well WellAll ReadsW ReadsAllW)
/-! ### an answer as data -/
mutual
/-- x stands for the datum d, lists and tuples all the way -/
inductive Dw (K : PySem.W.Frag) (H : Hp) : V → WData → Prop
  | non : Dw K H .non .none
  | bl (b : Bool) : Dw K H (.bl b) (.bool b)
  | int (i : Int) : Dw K H (.int i) (.int i)
  | str (x : Str) : Dw K H (.str x) (.str x)
  | byt (b : Array UInt8) : Dw K H (.byt b) (.bytes b.toList)
  | lst {a : Addr} {xs : List V} {ds : List WData} : SqL K H a xs → DwAll K H xs ds → Dw K H (.ref a) (.list ds)
  | tup {a : Addr} {xs : List V} {ds : List WData} : SqT K H a xs → DwAll K H xs ds → Dw K H (.ref a) (.tuple ds)
inductive DwAll (K : PySem.W.Frag) (H : Hp) : List V → List WData → Prop
  | nil : DwAll K H [] []
  | cons {v : V} {vs : List V} {d : WData} {ds : List WData} : Dw K H v d → DwAll K H vs ds → DwAll K H (v :: vs) (d :: ds)
end
theorem dw_ints {K : PySem.W.Frag} {H : Hp} : ∀ ns : List Int, DwAll K H (ns.map V.int) (ns.map WData.int)
  | [] => .nil
  | n :: r => .cons (.int n) (dw_ints r)
theorem ints_dw {K : PySem.W.Frag} {H : Hp} : ∀ (ns : List Int) (xs : List V), DwAll K H xs (ns.map WData.int) → xs = ns.map V.int
  | [], xs, h => by
    cases h
    rfl
  | n :: r, xs, h => by
    cases h with
    | cons h1 h2 =>
      cases h1
      rw [ints_dw r _ h2] <;> rfl
section
variable {P : Program} {w : World} {K : PySem.W.Frag} {H : Hp} {h : Heap} {R : PySem.W.WRecords} {cl : Str → Option Addr}
theorem sqL_at {a : Addr} {xs : List V} (hok : HOk P w H h) (KX : K.In h) (q : SqL K H a xs) : ∃ (its : List Value) (o : Obj) (n : Nat), Vals xs its ∧ h.get? a = some o ∧ o.cls = .type "list" ∧ o.data = .seq its.toArray n := by
  rcases q with q | ⟨o, its, n, e, hc, _, hd, _, hv⟩
  · obtain ⟨_, its, n, hv, e⟩ := (show ObjOk P w H h a (.lst xs) from q.ok hok)
    exact ⟨its, _, n, hv, e, rfl, rfl⟩
  · exact ⟨its.toList, o, n, hv, KX _ _ e, hc, by simp [hd]⟩
theorem sqT_at {a : Addr} {xs : List V} (hok : HOk P w H h) (KX : K.In h) (q : SqT K H a xs) : ∃ (its : List Value) (o : Obj) (n : Nat), Vals xs its ∧ h.get? a = some o ∧ o.cls = .type "tuple" ∧ o.data = .seq its.toArray n := by
  rcases q with q | ⟨o, its, n, e, hc, hd, _, hv⟩
  · obtain ⟨_, its, hv, o, e, hc, n, hd⟩ := (show ObjOk P w H h a (.tup xs) from q.ok hok)
    exact ⟨its, o, n, hv, e, hc, hd⟩
  · exact ⟨its.toList, o, n, hv, KX _ _ e, hc, by simp [hd]⟩
mutual
theorem Dw.reads (hok : HOk P w H h) (KX : K.In h) : ∀ (d : WData) (v : V) (u : Value), Dw K H v d → RelV v u → ∃ as, ReadsW R cl h u d as
  | .none, _, _, x, r => by
    cases x
    cases r
    exact ⟨_, ReadsW.none⟩
  | .bool b, _, _, x, r => by
    cases x
    cases r
    exact ⟨_, ReadsW.bool b⟩
  | .int i, _, _, x, r => by
    cases x
    obtain ⟨t, rfl⟩ := r
    exact ⟨_, ReadsW.int i t⟩
  | .str s, _, _, x, r => by
    cases x
    obtain ⟨t, rfl⟩ := r
    exact ⟨_, ReadsW.str s t⟩
  | .bytes b, _, _, x, r => by
    cases x
    obtain ⟨t, rfl⟩ := r
    exact ⟨_, ReadsW.bytes _ t⟩
  | .list ds, _, _, x, r => by
    cases x with
    | lst hs ha =>
      cases r
      obtain ⟨its, o, n, rv, ho, hc, hd⟩ := sqL_at hok KX hs
      obtain ⟨as, hr⟩ := Dw.readsAll hok KX ds _ its ha rv
      exact ⟨_, ReadsW.list ho hc hd hr⟩
  | .tuple ds, _, _, x, r => by
    cases x with
    | tup hs ha =>
      cases r
      obtain ⟨its, o, n, rv, ho, hc, hd⟩ := sqT_at hok KX hs
      obtain ⟨as, hr⟩ := Dw.readsAll hok KX ds _ its ha rv
      exact ⟨_, ReadsW.tuple ho hc hd hr⟩
  | .float _, _, _, x, _ => by cases x
  | .dict _, _, _, x, _ => by cases x
  | .bytearray _, _, _, x, _ => by cases x
  | .set _, _, _, x, _ => by cases x
  | .frozenset _, _, _, x, _ => by cases x
  | .obj _ _, _, _, x, _ => by cases x
theorem Dw.readsAll (hok : HOk P w H h) (KX : K.In h) : ∀ (ds : List WData) (vs : List V) (us : List Value), DwAll K H vs ds → Vals vs us → ∃ as, ReadsAllW R cl h us ds as
  | [], _, _, x, r => by
    cases x
    cases r
    exact ⟨_, ReadsAllW.nil⟩
  | d :: ds, _, _, x, r => by
    cases x with
    | cons h1 h2 =>
      cases r with
      | cons r1 r2 =>
        obtain ⟨as, q1⟩ := Dw.reads hok KX d _ _ h1 r1
        obtain ⟨bs, q2⟩ := Dw.readsAll hok KX ds _ _ h2 r2
        exact ⟨_, ReadsAllW.cons q1 q2⟩
end
end
/-! ### the arguments -/
mutual
/-- data that a codec tells -/
def plW : WData → Bool
  | .none => true
  | .bool _ => true
  | .int _ => true
  | .str _ => true
  | .bytes _ => true
  | .list xs => plWs xs
  | .tuple xs => plWs xs
  | _ => false
def plWs : List WData → Bool
  | [] => true
  | x :: r => plW x && plWs r
end
theorem plWs_map {α : Type} {f : α → WData} (h : ∀ a, plW (f a) = true) : ∀ l : List α, plWs (l.map f) = true
  | [] => rfl
  | x :: r => by
    show (plW (f x) && plWs (r.map f)) = true
    rw [h x, plWs_map h r] <;> rfl
theorem pl_enc : ∀ (c : Codec) (a : c.denote), plW (c.enc a) = true
  | .unit, _ => rfl
  | .bool, _ => rfl
  | .int _ _, _ => rfl
  | .nat _ _, _ => rfl
  | .u8, _ => rfl
  | .bytes _ _, _ => rfl
  | .text _ _ _ _, _ => rfl
  | .list _ _ c, a => plWs_map (fun x => pl_enc c x) a
  | .pair c d, a => by
    show (plW (c.enc a.1) && (plW (d.enc a.2) && true)) = true
    rw [pl_enc c a.1, pl_enc d a.2] <;> rfl
  | .triple c d e, a => by
    show (plW (c.enc a.1) && (plW (d.enc a.2.1) && (plW (e.enc a.2.2) && true))) = true
    rw [pl_enc c a.1, pl_enc d a.2.1, pl_enc e a.2.2] <;> rfl
  | .option c, none => rfl
  | .option c, some x => pl_enc c x
theorem pl_encAll : ∀ (cs : List Codec) (a : Codec.denoteAll cs), plWs (Codec.encAll cs a) = true
  | [], _ => rfl
  | c :: cs, a => by
    show (plW (c.enc a.1) && plWs (Codec.encAll cs a.2)) = true
    rw [pl_enc c a.1, pl_encAll cs a.2] <;> rfl
theorem weight_mem : ∀ {xs : List WData} {d : WData}, d ∈ xs → d.weight ≤ WData.weightAll xs
  | [], d, h => absurd h (by simp)
  | x :: r, d, h => by
    show d.weight ≤ x.weight + 1 + WData.weightAll r
    rcases List.mem_cons.mp h with e | m
    · rw [e]
      omega
    · have z := weight_mem m
      omega
def toV : Value → V
  | .none => .non
  | .bool b => .bl b
  | .int i _ => .int i
  | .str x _ => .str x
  | .bytes b _ => .byt b
  | .ref a => .ref a
  | _ => .non
/-- a value of the arguments, its objects among A -/
def OkU (A : List Addr) : Value → Prop
  | .none => True
  | .bool _ => True
  | .int _ _ => True
  | .str _ _ => True
  | .bytes _ _ => True
  | .ref a => a ∈ A
  | _ => False
theorem OkU.mono {A B : List Addr} (h : ∀ a ∈ A, a ∈ B) : ∀ {u : Value}, OkU A u → OkU B u := fun {u} x => by
  cases u with
  | ref a => exact h a x
  | none => trivial
  | bool b => trivial
  | int i t => trivial
  | str s t => trivial
  | bytes b t => trivial
  | _ => exact False.elim x
theorem relV_toV {A : List Addr} {u : Value} (x : OkU A u) : RelV (toV u) u := by
  cases u with
  | ref a => rfl
  | none => rfl
  | bool b => rfl
  | int i t => exact ⟨t, rfl⟩
  | str s t => exact ⟨t, rfl⟩
  | bytes b t => exact ⟨t, rfl⟩
  | _ => exact False.elim x
theorem vals_toV {A : List Addr} : ∀ {vs : List Value}, (∀ u ∈ vs, OkU A u) → Vals (vs.map toV) vs
  | [], _ => .nil
  | u :: r, h => .cons (relV_toV (h u (List.mem_cons_self ..))) (vals_toV fun x hx => h x (List.mem_cons_of_mem _ hx))
/-- an object of the arguments -/
def ArgOb (h : Heap) (A : List Addr) (a : Addr) : Prop := ∃ vs : List Value, vs.length ≤ sizeLine ∧ (∀ u ∈ vs, OkU A u) ∧
  (h.get? a = some { cls := .type "list", data := .seq vs.toArray } ∨ h.get? a = some { cls := .type "tuple", data := .seq vs.toArray })
theorem ArgOb.mono {h : Heap} {A B : List Addr} {a : Addr} (k : ∀ a ∈ A, a ∈ B) (x : ArgOb h A a) : ArgOb h B a := by
  obtain ⟨vs, h1, h2, h3⟩ := x
  exact ⟨vs, h1, fun u hu => (h2 u hu).mono k, h3⟩
theorem wellAll_len {P : Params} {h : Heap} : ∀ {vs : List Value} {ds : List WData}, WellAll P h vs ds → vs.length = ds.length
  | _, _, .nil => rfl
  | _, _, .cons _ b => by
    show _ + 1 = _ + 1
    rw [wellAll_len b]
theorem well_list {P : Params} {h : Heap} {v : Value} {ds : List WData} (x : Well P h v (.list ds)) : ∃ (a : Addr) (vs : List Value), v = .ref a ∧ h.get? a = some { cls := .type "list", data := .seq vs.toArray } ∧ WellAll P h vs ds := by
  cases x with
  | list ho hall => exact ⟨_, _, rfl, ho, hall⟩
theorem well_tuple {P : Params} {h : Heap} {v : Value} {ds : List WData} (x : Well P h v (.tuple ds)) : ∃ (a : Addr) (vs : List Value), v = .ref a ∧ h.get? a = some { cls := .type "tuple", data := .seq vs.toArray } ∧ WellAll P h vs ds := by
  cases x with
  | tuple ho hall => exact ⟨_, _, rfl, ho, hall⟩
theorem well_cons {P : Params} {h : Heap} {us : List Value} {d : WData} {ds : List WData} (x : WellAll P h us (d :: ds)) : ∃ (v : Value) (vs : List Value), us = v :: vs ∧ Well P h v d ∧ WellAll P h vs ds := by
  cases x with
  | cons a b => exact ⟨_, _, rfl, a, b⟩
theorem line_of {n : Nat} (h : n ≤ 1048576) : n ≤ sizeLine := Nat.le_trans h (by decide)
section
variable {P : Params} {h : Heap}
mutual
theorem area_one : ∀ (d : WData) (v : Value), Well P h v d → plW d = true → d.weight ≤ 1048576 → ∃ A : List Addr, OkU A v ∧ ∀ a ∈ A, ArgOb h A a
  | .none, _, x, _, _ => by
    cases x
    exact ⟨[], trivial, fun a m => absurd m (by simp)⟩
  | .bool b, _, x, _, _ => by
    cases x
    exact ⟨[], trivial, fun a m => absurd m (by simp)⟩
  | .int i, _, x, _, _ => by
    cases x
    exact ⟨[], trivial, fun a m => absurd m (by simp)⟩
  | .str s, _, x, _, _ => by
    cases x
    exact ⟨[], trivial, fun a m => absurd m (by simp)⟩
  | .bytes b, _, x, _, _ => by
    cases x
    exact ⟨[], trivial, fun a m => absurd m (by simp)⟩
  | .list ds, _, x, p, z => by
    obtain ⟨a, vs, rfl, ho, hall⟩ := well_list x
    have z2 : WData.weightAll ds ≤ 1048576 := z
    obtain ⟨A, h1, h2⟩ := area_all ds _ hall p fun d hd => Nat.le_trans (weight_mem hd) z2
    have k : ∀ b ∈ A, b ∈ a :: A := fun b hb => List.mem_cons_of_mem _ hb
    refine ⟨a :: A, List.mem_cons_self .., fun b hb => ?_⟩
    rcases List.mem_cons.mp hb with e | m
    · rw [e]
      exact ⟨vs, line_of (by rw [wellAll_len hall]; exact Nat.le_trans (PySem.W.length_le_weightAllW ds) z2), fun u hu => (h1 u hu).mono k, .inl ho⟩
    · exact (h2 b m).mono k
  | .tuple ds, _, x, p, z => by
    obtain ⟨a, vs, rfl, ho, hall⟩ := well_tuple x
    have z2 : WData.weightAll ds ≤ 1048576 := z
    obtain ⟨A, h1, h2⟩ := area_all ds _ hall p fun d hd => Nat.le_trans (weight_mem hd) z2
    have k : ∀ b ∈ A, b ∈ a :: A := fun b hb => List.mem_cons_of_mem _ hb
    refine ⟨a :: A, List.mem_cons_self .., fun b hb => ?_⟩
    rcases List.mem_cons.mp hb with e | m
    · rw [e]
      exact ⟨vs, line_of (by rw [wellAll_len hall]; exact Nat.le_trans (PySem.W.length_le_weightAllW ds) z2), fun u hu => (h1 u hu).mono k, .inr ho⟩
    · exact (h2 b m).mono k
  | .float _, _, _, p, _ => Bool.noConfusion (show false = true from p)
  | .dict _, _, _, p, _ => Bool.noConfusion (show false = true from p)
  | .bytearray _, _, _, p, _ => Bool.noConfusion (show false = true from p)
  | .set _, _, _, p, _ => Bool.noConfusion (show false = true from p)
  | .frozenset _, _, _, p, _ => Bool.noConfusion (show false = true from p)
  | .obj _ _, _, _, p, _ => Bool.noConfusion (show false = true from p)
theorem area_all : ∀ (ds : List WData) (vs : List Value), WellAll P h vs ds → plWs ds = true → (∀ d ∈ ds, d.weight ≤ 1048576) → ∃ A : List Addr, (∀ u ∈ vs, OkU A u) ∧ ∀ a ∈ A, ArgOb h A a
  | [], _, x, _, _ => by
    cases x
    exact ⟨[], fun u m => absurd m (by simp), fun a m => absurd m (by simp)⟩
  | d :: ds, _, x, p, z => by
    obtain ⟨v, vs, rfl, x1, x2⟩ := well_cons x
    have q : plW d = true ∧ plWs ds = true := Bool.and_eq_true_iff.mp p
    obtain ⟨A, a1, a2⟩ := area_one d v x1 q.1 (z d (List.mem_cons_self ..))
    obtain ⟨B, b1, b2⟩ := area_all ds vs x2 q.2 fun e he => z e (List.mem_cons_of_mem _ he)
    have kA : ∀ b ∈ A, b ∈ A ++ B := fun b hb => List.mem_append.mpr (.inl hb)
    have kB : ∀ b ∈ B, b ∈ A ++ B := fun b hb => List.mem_append.mpr (.inr hb)
    refine ⟨A ++ B, fun u hu => ?_, fun b hb => ?_⟩
    · rcases List.mem_cons.mp hu with e | m
      · rw [e]
        exact a1.mono kA
      · exact (b1 u m).mono kB
    · rcases List.mem_append.mp hb with m | m
      · exact (a2 b m).mono kA
      · exact (b2 b m).mono kB
end
end
/-- what is tracked of an argument's object -/
def hoOf (o : Obj) : Option HO := match o.data with
  | .seq vs _ => if (o.cls == Value.type "list") = true then some (.frz o (.lst (vs.toList.map toV))) else some (.frz o (.tup (vs.toList.map toV)))
  | _ => none
def argH (K : PySem.W.Frag) (h : Heap) (A : List Addr) : Hp := fun b => if b ∈ A then (if (K.lookup b).isNone = true then (h.get? b).bind hoOf else none) else none
/-- nothing is tracked but what is known to the object -/
def OnlyF (H : Hp) : Prop := ∀ b, H b = none ∨ ∃ o u, H b = some (.frz o u)
theorem hoOf_lst (vs : List Value) : hoOf { cls := .type "list", data := .seq vs.toArray } = some (.frz { cls := .type "list", data := .seq vs.toArray } (.lst (vs.map toV))) := by
  show (if (Value.type "list" == Value.type "list") = true then some (HO.frz { cls := .type "list", data := .seq vs.toArray } (.lst (vs.toArray.toList.map toV))) else some (HO.frz { cls := .type "list", data := .seq vs.toArray } (.tup (vs.toArray.toList.map toV)))) = _
  rw [if_pos (beq_self_eq_true _)]
theorem hoOf_tup (vs : List Value) : hoOf { cls := .type "tuple", data := .seq vs.toArray } = some (.frz { cls := .type "tuple", data := .seq vs.toArray } (.tup (vs.map toV))) := by
  show (if (Value.type "tuple" == Value.type "list") = true then some (HO.frz { cls := .type "tuple", data := .seq vs.toArray } (.lst (vs.toArray.toList.map toV))) else some (HO.frz { cls := .type "tuple", data := .seq vs.toArray } (.tup (vs.toArray.toList.map toV)))) = _
  rw [if_neg (by decide)]
section
variable {P : Program} {w : World} {K : PySem.W.Frag} {h : Heap} {A : List Addr}
theorem argH_at {b : Addr} {o : Obj} (hb : b ∈ A) (hk : K.lookup b = none) (e : h.get? b = some o) : argH K h A b = hoOf o := by
  unfold argH
  rw [if_pos hb, hk, if_pos (show (none : Option Obj).isNone = true from rfl), e] <;> rfl
theorem of_argH {b : Addr} {u : HO} (q : argH K h A b = some u) : b ∈ A ∧ K.lookup b = none := by
  unfold argH at q
  by_cases hb : b ∈ A
  · rw [if_pos hb] at q
    cases hk : K.lookup b with
    | none => exact ⟨hb, rfl⟩
    | some o =>
      rw [hk, if_neg (by simp)] at q
      cases q
  · rw [if_neg hb] at q
    cases q
/-- what stands tracked -/
theorem argH_is (ar : ∀ a ∈ A, ArgOb h A a) {b : Addr} {u : HO} (q : argH K h A b = some u) : K.lookup b = none ∧ ∃ vs : List Value, vs.length ≤ sizeLine ∧ (∀ u ∈ vs, OkU A u) ∧
    ((h.get? b = some { cls := .type "list", data := .seq vs.toArray } ∧ u = .frz { cls := .type "list", data := .seq vs.toArray } (.lst (vs.map toV))) ∨
     (h.get? b = some { cls := .type "tuple", data := .seq vs.toArray } ∧ u = .frz { cls := .type "tuple", data := .seq vs.toArray } (.tup (vs.map toV)))) := by
  obtain ⟨hb, hk⟩ := of_argH q
  obtain ⟨vs, h1, h2, h3⟩ := ar b hb
  refine ⟨hk, vs, h1, h2, ?_⟩
  rcases h3 with e | e
  · rw [argH_at hb hk e, hoOf_lst] at q
    exact .inl ⟨e, (Option.some.inj q).symm⟩
  · rw [argH_at hb hk e, hoOf_tup] at q
    exact .inr ⟨e, (Option.some.inj q).symm⟩
theorem argH_only (ar : ∀ a ∈ A, ArgOb h A a) : OnlyF (argH K h A) := fun b => by
  cases q : argH K h A b with
  | none => exact .inl rfl
  | some u =>
    obtain ⟨_, vs, _, _, ⟨_, e⟩ | ⟨_, e⟩⟩ := argH_is ar q
    · exact .inr ⟨_, _, by rw [e]⟩
    · exact .inr ⟨_, _, by rw [e]⟩
theorem argH_ok (ar : ∀ a ∈ A, ArgOb h A a) : HOk P w (argH K h A) h := fun b u q => by
  obtain ⟨_, vs, h1, h2, ⟨e, rfl⟩ | ⟨e, rfl⟩⟩ := argH_is ar q
  · exact ⟨e, by rw [List.length_map]; exact h1, vs, _, vals_toV h2, e⟩
  · exact ⟨e, by rw [List.length_map]; exact h1, vs, vals_toV h2, _, e, rfl, _, rfl⟩
theorem seq_inj {c c' : Value} {vs us : List Value} (e : (some { cls := c, data := .seq vs.toArray } : Option Obj) = some { cls := c', data := .seq us.toArray }) : c = c' ∧ vs = us := by
  have e1 := Option.some.inj e
  have e2 : c = c' := congrArg Obj.cls e1
  have e3 : Data.seq vs.toArray = Data.seq us.toArray := congrArg Obj.data e1
  injection e3 with e4
  refine ⟨e2, ?_⟩
  have e5 := congrArg Array.toList e4
  simpa using e5
/-- a list argument -/
theorem argL (KX : K.In h) (ar : ∀ a ∈ A, ArgOb h A a) {a : Addr} {vs : List Value} (ha : a ∈ A) (e : h.get? a = some { cls := .type "list", data := .seq vs.toArray }) : (∀ u ∈ vs, OkU A u) ∧ SqL K (argH K h A) a (vs.map toV) := by
  obtain ⟨us, h1, h2, h3⟩ := ar a ha
  have hu : us = vs := by
    rcases h3 with q | q
    · rw [e] at q
      exact (seq_inj q).2.symm
    · rw [e] at q
      exact absurd (Value.type.inj (seq_inj q).1) (by decide)
  subst hu
  refine ⟨h2, ?_⟩
  cases hk : K.lookup a with
  | none => exact .inl (.inr ⟨_, by rw [argH_at ha hk e, hoOf_lst]⟩)
  | some o =>
    have e2 := KX a o hk
    rw [e] at e2
    obtain rfl := Option.some.inj e2
    exact .inr ⟨_, us.toArray, _, hk, rfl, rfl, rfl, by rw [List.size_toArray]; exact h1, by simpa using vals_toV h2⟩
theorem argT (KX : K.In h) (ar : ∀ a ∈ A, ArgOb h A a) {a : Addr} {vs : List Value} (ha : a ∈ A) (e : h.get? a = some { cls := .type "tuple", data := .seq vs.toArray }) : (∀ u ∈ vs, OkU A u) ∧ SqT K (argH K h A) a (vs.map toV) := by
  obtain ⟨us, h1, h2, h3⟩ := ar a ha
  have hu : us = vs := by
    rcases h3 with q | q
    · rw [e] at q
      exact absurd (Value.type.inj (seq_inj q).1) (by decide)
    · rw [e] at q
      exact (seq_inj q).2.symm
  subst hu
  refine ⟨h2, ?_⟩
  cases hk : K.lookup a with
  | none => exact .inl (.inr ⟨_, by rw [argH_at ha hk e, hoOf_tup]⟩)
  | some o =>
    have e2 := KX a o hk
    rw [e] at e2
    obtain rfl := Option.some.inj e2
    exact .inr ⟨_, us.toArray, _, hk, rfl, rfl, by rw [List.size_toArray]; exact h1, by simpa using vals_toV h2⟩
mutual
theorem dw_one {Pm : Params} (KX : K.In h) (ar : ∀ a ∈ A, ArgOb h A a) : ∀ (d : WData) (v : Value), Well Pm h v d → plW d = true → OkU A v → Dw K (argH K h A) (toV v) d
  | .none, _, x, _, _ => by
    cases x
    exact .non
  | .bool b, _, x, _, _ => by
    cases x
    exact .bl b
  | .int i, _, x, _, _ => by
    cases x
    exact .int i
  | .str s, _, x, _, _ => by
    cases x
    exact .str s
  | .bytes b, _, x, _, _ => by
    cases x
    have z := Dw.byt (K := K) (H := argH K h A) b.toArray
    exact z
  | .list ds, _, x, p, hu => by
    obtain ⟨a, vs, rfl, ho, hall⟩ := well_list x
    obtain ⟨h2, hs⟩ := argL KX ar hu ho
    exact .lst hs (dw_all KX ar ds _ hall p h2)
  | .tuple ds, _, x, p, hu => by
    obtain ⟨a, vs, rfl, ho, hall⟩ := well_tuple x
    obtain ⟨h2, hs⟩ := argT KX ar hu ho
    exact .tup hs (dw_all KX ar ds _ hall p h2)
  | .float _, _, _, p, _ => Bool.noConfusion (show false = true from p)
  | .dict _, _, _, p, _ => Bool.noConfusion (show false = true from p)
  | .bytearray _, _, _, p, _ => Bool.noConfusion (show false = true from p)
  | .set _, _, _, p, _ => Bool.noConfusion (show false = true from p)
  | .frozenset _, _, _, p, _ => Bool.noConfusion (show false = true from p)
  | .obj _ _, _, _, p, _ => Bool.noConfusion (show false = true from p)
theorem dw_all {Pm : Params} (KX : K.In h) (ar : ∀ a ∈ A, ArgOb h A a) : ∀ (ds : List WData) (vs : List Value), WellAll Pm h vs ds → plWs ds = true → (∀ u ∈ vs, OkU A u) → DwAll K (argH K h A) (vs.map toV) ds
  | [], _, x, _, _ => by
    cases x
    exact .nil
  | d :: ds, _, x, p, hu => by
    obtain ⟨v, vs, rfl, x1, x2⟩ := well_cons x
    have q : plW d = true ∧ plWs ds = true := Bool.and_eq_true_iff.mp p
    exact .cons (dw_one KX ar d v x1 q.1 (hu _ (List.mem_cons_self ..))) (dw_all KX ar ds vs x2 q.2 fun u m => hu u (List.mem_cons_of_mem _ m))
end
end
/-! ### the call -/
theorem spec_call {P : Program} {w : World} {K : PySem.W.Frag} {mg mb : Str → Option Value} {CX : CXT} {k : Nat} {fa : Addr} {fd : FuncData} {ps : List Str} {sp : Sp} {s₁ : Shared} {vals : List Value} {ds : List WData} {R : PySem.W.WRecords} {cl : Str → Option Addr} {d0 : WData}
    (KX : K.In s₁.heap) (hns : s₁.heap.Ns mainGlobals mg) (hb : s₁.heap.Ns builtinsNs mb) (hbb : ∀ x : Str, x ≠ "__name__" → mb x = bootBuiltins x) (hlim : s₁.heap.NoLimit) (hg : s₁.gens = #[])
    (hwl : WellAll w.params s₁.heap vals ds) (hpl : plWs ds = true) (hwt : ∀ d ∈ ds, d.weight ≤ 1048576) (hr : Room k callerA)
    (F : ∀ base : Heap, K.In base → base.Ns mainGlobals mg → FnOk P w K mg base CX k fa fd ps sp) (hbind : ∀ (s : Shared) (us : List Value), us.length = ps.length → BindsTo s fd ⟨us, []⟩ (ps.zip us)) (hlen : ds.length = ps.length)
    (hsp : ∀ (H : Hp) (xs : List V), OnlyF H → DwAll K H xs ds → sp xs H (fun v H' => Dw K H' v d0) fun _ _ _ => False)
    (hCX : ∀ H e s', CX [] H s₁ (fun _ _ _ => False) e s' → False) :
    codeAny (model P w) callerA (.call (.ref fa) ⟨vals, []⟩) (fun r s' => ∃ u as, r = .ok (.ret u) ∧ ReadsW R cl s'.heap u d0 as ∧ OldK s₁.heap s'.heap ∧ s'.os = s₁.os ∧ AllBare s'.gens) s₁ := by
  obtain ⟨A, ho, ar⟩ := area_all ds vals hwl hpl hwt
  have hO : OnlyF (argH K s₁.heap A) := argH_only ar
  have hok : HOk P w (argH K s₁.heap A) s₁.heap := argH_ok ar
  have hS := dw_all KX ar ds vals hwl hpl ho
  have hV := vals_toV ho
  have hK : ∀ b u, argH K s₁.heap A b = some u → K.lookup b = none := fun b u q => (argH_is ar q).1
  have noA : ∀ {b : Addr} {o : Obj} {es : Array DictEntry} {ep : Nat}, s₁.heap.get? b = some o → o.data = .dict es ep → argH K s₁.heap A b = none := fun {b o es ep} e d => by
    cases q : argH K s₁.heap A b with
    | none => rfl
    | some u =>
      obtain ⟨_, vs, _, _, ⟨e2, _⟩ | ⟨e2, _⟩⟩ := argH_is ar q
      · rw [e2] at e
        cases e
        have d' : Data.seq vs.toArray _ = Data.dict es ep := d
        cases d'
      · rw [e2] at e
        cases e
        have d' : Data.seq vs.toArray _ = Data.dict es ep := d
        cases d'
  generalize argH K s₁.heap A = H at hO hok hS hK noA
  have base_of : ∀ {b : Addr} {o : Obj}, s₁.heap.get? b = some o → H b = none → (hidT s₁.heap H).get? b = some o := fun e n => hidT_get e n
  have nsK : ∀ {b : Addr} {m : Str → Option Value}, s₁.heap.Ns b m → (hidT s₁.heap H).Ns b m := fun {b m} ⟨o, es, ep, e, d, r⟩ => ⟨o, es, ep, base_of e (noA e d), d, r⟩
  have nK : ∀ b o, K.lookup b = some o → H b = none := fun b o e => by
    cases q : H b with
    | none => rfl
    | some u =>
      rw [hK b u q] at e
      cases e
  have hKb : K.In (hidT s₁.heap H) := fun b o e => base_of (KX b o e) (nK b o e)
  have hM : Mod K mg (hidT s₁.heap H) := ⟨hKb, nsK hns, ⟨mb, nsK hb, hbb⟩, let ⟨mc, h1, h2⟩ := hlim; ⟨mc, nsK h1, h2⟩⟩
  have e0 : Env0 P w K mg (hidT s₁.heap H) callerA [] s₁ H := ⟨rfl, hM, fun b o e => of_hidT e, Nat.le_of_eq (hidT_size _ _), trivial, fun b hb => absurd (show b ∈ ([] : List Addr) from hb) (by simp), hok, .of_eq hg⟩
  have hl : vals.length = ps.length := by rw [wellAll_len hwl]; exact hlen
  refine codeAny_mono ((F _ hKb (nsK hns)).run callerA [] s₁ H ⟨vals, []⟩ vals (vals.map toV) _ _ hr e0 (hbind s₁ vals hl) hV (hsp H _ hO hS)) fun r s' x => ?_
  cases r with
  | error e => exact (hCX H e s' x).elim
  | ok fl =>
    cases fl with
    | next => exact False.elim x
    | brk => exact False.elim x
    | cont => exact False.elim x
    | ret u =>
      obtain ⟨v, H', os, bare, un, hok', r', q⟩ := x
      have kept : ∀ b o, s₁.heap.get? b = some o → s'.heap.get? b = some o := fun b o e => by
        cases q2 : H b with
        | none => exact un.keep b o e q2 (by intro z; exact absurd (show b ∈ ([] : List Addr) from z) (by simp)) (by simp)
        | some u2 =>
          rcases hO b with z | ⟨ob, u3, z⟩
          · rw [q2] at z
            cases z
          · have z2 := un.frzs b ob _ z
            obtain ⟨e1, _⟩ := hok b _ z
            obtain ⟨e2, _⟩ := hok' b _ z2
            rw [e] at e1
            cases e1
            exact e2
      have KX' : K.In s'.heap := fun b o e => kept b o (KX b o e)
      obtain ⟨as, hrd⟩ := Dw.reads (R := R) (cl := cl) hok' KX' d0 v u q r'
      exact ⟨u, as, rfl, hrd, OldK.of_keep kept, os, bare⟩
/-! ### the row -/
theorem layable_weight {ds : List WData} (h : WData.layableAll ds = true) : ∀ d ∈ ds, d.weight ≤ 1048576 := fun d hd =>
  (PySem.W.layableW_iff.mp (List.all_eq_true.mp h d hd)).2.2
theorem encAll_len : ∀ (cs : List Codec) (a : Codec.denoteAll cs), (Codec.encAll cs a).length = cs.length
  | [], _ => rfl
  | c :: cs, a => by
    show (Codec.encAll cs a.2).length + 1 = cs.length + 1
    rw [encAll_len cs a.2]
/-- the goal that k_headS leaves (case hc), from the promise of the row's def: whatever the arguments that the codecs let and the row asks for, the def gives what stands for enc (f ..) -/
theorem walk_spec {r : OpenSpec} {k : Nat} {q : Program} {loose : List Str} {XP : (Str → Option Value) → Heap → Prop} {YP : World → Heap → Prop} {d : DefRec} {K : Params → PySem.W.Frag} {CX : World → CXT} {ps : List Str} {sp : World → Sp}
    (hwell : r.wellSaid = true) (hdf : d.params.defaults = []) (hlen : r.args.length = ps.length) (hr : Room k callerA)
    (hY : ∀ (w : World) (h : Heap), YP w h → (K w.params).In h)
    (F : ∀ (w : World) (mg : Str → Option Value) (fa : Addr) (h : Heap), YP w h → (K w.params).In h → h.Ns mainGlobals mg → mg d.name = some (.ref fa) →
      ∃ fd : FuncData, (∀ (s : Shared) (us : List Value), us.length = ps.length → BindsTo s fd ⟨us, []⟩ (ps.zip us)) ∧
        ∀ base : Heap, (K w.params).In base → base.Ns mainGlobals mg → FnOk r.prog w (K w.params) mg base (CX w) k fa fd ps (sp w))
    (hsp : ∀ (w : World) (H : Hp) (xs : List V) (a : Codec.denoteAll r.args), OnlyF H → Codec.withinAll r.args a = true → Codec.app r.args r.asked a = true → DwAll (K w.params) H xs (Codec.encAll r.args a) →
      sp w xs H (fun v H' => Dw (K w.params) H' v (r.ret.enc (Codec.app r.args r.f a))) fun _ _ _ => False)
    (hCX : ∀ (w : World) (H : Hp) (s : Shared) (e : Value) (s' : Shared), CX w [] H s (fun _ _ _ => False) e s' → False) :
    PySem.W.WalkOS q loose XP YP r d [] (fun f vs => PySem.call f vs) := by
  intro w s_0 s₁ mg mb G Y fa o pm cd doc dV kV ho hd hcd hD hmg hg args vals as hpre hlay hrd hwl hlo
  obtain ⟨a, e1, e2⟩ := PySem.W.os_pre_some hpre
  obtain ⟨e3, hwi⟩ := Codec.encAll_of_decAll r.args args a e1
  subst e3
  have KX := hY w _ Y
  obtain ⟨fd, hb, hF⟩ := F w mg fa _ Y KX G.T.g hmg
  refine PySem.W.enter_call (codeAny_mono (spec_call (R := []) (cl := classAt s_0.heap) (d0 := r.ret.enc (Codec.app r.args r.f a)) KX G.T.g G.T.b G.T.builtins G.T.nolimit hg hwl (pl_encAll _ _) (layable_weight hlay) hr hF hb (by rw [encAll_len]; exact hlen)
    (fun H xs hO hS => hsp w H xs a hO hwi e2 hS) fun H e s' => hCX w H s₁ e s') fun r' s' hq => ?_)
  obtain ⟨u, as', rfl, h1, h2, h3, h4⟩ := hq
  exact ⟨.inl ⟨u, _, as', rfl, fun _ => rfl, h1, (OpenSpec.post_iff hwell hwi _ _).mpr rfl, fun z => Bool.noConfusion (show false = true from z)⟩, h2, h3, h4⟩
/-- the same where the promise hangs on the written part alone -/
theorem walk_specK {r : OpenSpec} {k : Nat} {q : Program} {loose : List Str} {XP : (Str → Option Value) → Heap → Prop} {YP : World → Heap → Prop} {d : DefRec} {K : Params → PySem.W.Frag} {CX : CXT} {ps : List Str} {sp : PySem.W.Frag → Sp}
    (hwell : r.wellSaid = true) (hdf : d.params.defaults = []) (hlen : r.args.length = ps.length) (hr : Room k callerA)
    (hY : ∀ (w : World) (h : Heap), YP w h → (K w.params).In h)
    (F : ∀ (w : World) (mg : Str → Option Value) (fa : Addr) (h : Heap), YP w h → (K w.params).In h → h.Ns mainGlobals mg → mg d.name = some (.ref fa) →
      ∃ fd : FuncData, (∀ (s : Shared) (us : List Value), us.length = ps.length → BindsTo s fd ⟨us, []⟩ (ps.zip us)) ∧
        ∀ base : Heap, (K w.params).In base → base.Ns mainGlobals mg → FnOk r.prog w (K w.params) mg base CX k fa fd ps (sp (K w.params)))
    (hsp : ∀ (K : PySem.W.Frag) (H : Hp) (xs : List V) (a : Codec.denoteAll r.args), OnlyF H → Codec.withinAll r.args a = true → Codec.app r.args r.asked a = true → DwAll K H xs (Codec.encAll r.args a) →
      sp K xs H (fun v H' => Dw K H' v (r.ret.enc (Codec.app r.args r.f a))) fun _ _ _ => False)
    (hCX : ∀ (H : Hp) (s : Shared) (e : Value) (s' : Shared), CX [] H s (fun _ _ _ => False) e s' → False) :
    PySem.W.WalkOS q loose XP YP r d [] (fun f vs => PySem.call f vs) :=
  walk_spec (K := K) (CX := fun _ => CX) (sp := fun w => sp (K w.params)) hwell hdf hlen hr hY F (fun w H xs a h1 h2 h3 h4 => hsp (K w.params) H xs a h1 h2 h3 h4) fun _ H s e s' => hCX H s e s'
end L2
end

end
set_option Elab.async false
set_option linter.all false
set_option maxRecDepth 100000
set_option maxHeartbeats 2000000
namespace NT
open PySem PySem.Spec PyProof.Rows L2
/-! ### rules that the layer lacks -/
section
variable {prog : Program} {w : World} {K : Type} [DecidableEq K] (knd : HeapKind prog w K) (d : Addr)
theorem meetsH_len (hd : (d == sysModules) = false) :
    MeetsIn prog w (Builtin.«dict.__len__» ⟨[.ref d], []⟩) (fun _ R s => ∃ xs, s.heap.DictOfH knd d xs ∧ R (.ok (.ret (.int xs.length s.toks))) { s with toks := s.toks + 1 }) :=
  .of_wp fun A R s ⟨xs, hm, h⟩ => by
    obtain ⟨o, es, ep, ho, hc, hdat, he, hk, hn⟩ := hm
    show wpAny _ _ (dictSize d >>= _) _ _ s
    unfold dictSize
    refine wpAny_bind (wpAny_bind (wpAny_dictEntries ho hdat (wpAny_pure ?_)))
    show wpAny _ _ (Builtin.Dict.pendingCount d >>= _) _ _ s
    refine wpAny_bind (wpAny_pendingCount_other hd ?_)
    refine wpAny_ret_mkInt ?_
    rw [Nat.add_zero, size_of_entries he]
    exact h
end
section
variable {prog : Program} {w : World} {K : Type} [DecidableEq K] {knd : HeapKind prog w K} {A : Around} {E : Value → Shared → Prop} {s : Shared}
theorem len_bodyH {d : Addr} {xs : List (K × Addr × Value)} {Q : Value → Shared → Prop} (hd : (d == sysModules) = false) (hm : s.heap.DictOfH knd d xs) (hfit : (xs.length : Int) < 2 ^ 63)
    (h : Q (.int xs.length (s.toks + 1)) { s with toks := s.toks + 1 + 1 }) : wpAny (model prog w) A (Builtin.«len» ⟨[.ref d], []⟩) (fun fin s' => ∃ r, fin = .done (.ret r) ∧ Q r s') E s := by
  unfold Builtin.«len»
  refine wpAny_bind (m := oneArg "len" _) (wpAny_pure ?_)
  refine wpAny_bind (m := callSpecial? (.ref d) (Str.ofString "__len__")) (wpAny_callSpecial?_slot (name := Str.ofString "__len__") hm.typeIs F.slot_dict_len
    (call_meetsIn F.slot_dict_len hm.typeIs F.entry_dict_len (F.args_dict_len_1 _) (meetsH_len knd d hd) ⟨xs, hm, ?_⟩))
  show wpAny _ _ _ _ _ { s with toks := s.toks + 1 }
  refine wpAny_bind (wpAny_holding (wpAny_pure ?_))
  refine wpAny_bind (wpAny_letGo ?_)
  show wpAny _ _ (if ((xs.length : Nat) : Int) < 0 then _ else _) _ _ _
  rw [if_neg (by omega)]
  show wpAny _ _ (if ((xs.length : Nat) : Int) ≥ 2 ^ 63 then _ else _) _ _ _
  rw [if_neg (by omega)]
  exact wpAny_bind (wpAny_mkInt (wpAny_pure ⟨_, rfl, h⟩))
theorem call_lenH {d : Addr} {xs : List (K × Addr × Value)} {Q : Value → Shared → Prop} (hd : (d == sysModules) = false) (hm : s.heap.DictOfH knd d xs) (hfit : (xs.length : Int) < 2 ^ 63)
    (h : Q (.int xs.length (s.toks + 1)) { s with toks := s.toks + 1 + 1 }) : wpAny (model prog w) A (call (.builtin "len") [.ref d]) Q E s :=
  Calls.call_function_entry kind_len plain_len entry_len (args_len1 _) (len_bodyH hd hm hfit h)
end
section
variable {X : Cx}
theorem call_lenT : CallR X (.builtin "len") (fun xs H Q => ∃ a kvs, xs = [V.ref a] ∧ H a = some (.dT kvs) ∧ Q (.int kvs.length) H) := by
  intro pins s σ H xs us Q I r h
  obtain ⟨a, kvs, rfl, ha, q⟩ := h
  obtain ⟨u, rfl, ru⟩ := vals1 r
  cases ru
  obtain ⟨z, hd, xs, rel, dd⟩ := dt_rd I.hok (.inl ha)
  have hl : kvs.length = xs.length := Paired.length rel
  refine call_lenH hd dd (by rw [← hl]; rw [sizeLine_eq] at z; omega) ?_
  rw [← hl]
  exact ⟨.int kvs.length, H, I.tok _, ⟨_, rfl⟩, q⟩
theorem op_fdivB : OpR X (binaryOp .FloorDiv) (rI (fun _ j => 0 < j ∧ j.natAbs.log2 < 9000) fun i j => .int (i / j)) := opI fun i j _ _ _ _ _ hc q => by
  have h1 : (0 : Int) < j := hc.1
  exact floordiv_int (by omega) (by rw [Int.fdiv_eq_ediv_of_nonneg i (by omega)]; exact q) (.inl (PyProof.noPylong_of_log2 hc.2))
/-- a module's whole number -/
theorem pk {x : Str} {i : Int} {pos : Pos} (h : ∃ t, X.mg x = some (.int i t)) (hg : Gl X x := by rfl) (hd : (x == ("__debug__" : Str)) = false := by decide) : PE X (.Name x pos) (tC (.int i)) := by
  obtain ⟨t, h⟩ := h
  exact pe_glob hg h ⟨t, rfl⟩ hd
end
/-! ### defs, methods, classes, with what they promise -/
structure Df (K : PySem.W.Frag) (mg : Str → Option Value) (x qual : Str) (st : Stmt) (ps : List Str) : Prop where
  ex : ∃ f fd, Fun K x qual st f fd ∧ mg x = some (.ref f) ∧ Binds K fd ps []
structure Dm (K : PySem.W.Frag) (C : Addr) (x qual : Str) (st : Stmt) (ps : List Str) : Prop where
  ex : ∃ f fd, Fun K x qual st f fd ∧ Meth K C x f ∧ Binds K fd ps []
structure Dc (K : PySem.W.Frag) (C : Addr) (qual : Str) (st : Stmt) (ps : List Str) : Prop where
  ex : ∃ f fd, Fun K "__init__" qual st f fd ∧ Mk K C f ∧ Binds K fd ps []
def TupK (K : PySem.W.Frag) (a : Addr) (ns : List Int) : Prop := ∃ (o : Obj) (its : Array Value) (n : Nat), K.lookup a = some o ∧ o.cls = .type "tuple" ∧ o.data = .seq its n ∧ its.size ≤ sizeLine ∧ Vals (ns.map V.int) its.toList
theorem TupK.sq {K : PySem.W.Frag} {a : Addr} {ns : List Int} (h : TupK K a ns) (H : Hp) : SqT K H a (ns.map V.int) := .inr h
structure Gf (P : Program) (w : World) (K : PySem.W.Frag) (mg : Str → Option Value) (base : Heap) (k : Nat) (x : Str) (ps : List Str) (sp : Sp) : Prop where
  ex : ∃ f fd, FnOk P w K mg base CX0 k f fd ps sp ∧ mg x = some (.ref f) ∧ PySem.W.keepIn K (.ref f) = true ∧ Binds K fd ps []
structure Gm (P : Program) (w : World) (K : PySem.W.Frag) (mg : Str → Option Value) (base : Heap) (k : Nat) (C : Addr) (x : Str) (ps : List Str) (sp : Sp) : Prop where
  ex : ∃ f fd, FnOk P w K mg base CX0 k f fd ps sp ∧ Meth K C x f ∧ Binds K fd ps []
structure Gc (P : Program) (w : World) (K : PySem.W.Frag) (mg : Str → Option Value) (base : Heap) (k : Nat) (C : Addr) (ps : List Str) (sp : Sp) : Prop where
  ex : ∃ f fd, FnOk P w K mg base CX0 k f fd ps sp ∧ Mk K C f ∧ Binds K fd ps []
section
variable {P : Program} {w : World} {K : PySem.W.Frag} {mg : Str → Option Value} {base : Heap} {x qual : Str} {st : Stmt} {N ps : List Str} {k : Nat} {sp : Sp} {C : Addr}
abbrev BodyOk (P : Program) (w : World) (K : PySem.W.Frag) (mg : Str → Option Value) (base : Heap) (k : Nat) (N : List Str) (qual : Str) (st : Stmt) (sp : Sp) : Prop :=
  ∀ (f : Addr) (cdv : Value) (A : Around) (outer : List Env) (s : Shared) (H : Hp) (vs : List V) (Q : VK) (E : XK), Room k (A.deeper (envOfC qual (defScope st) s.heap.objs.size f cdv)) → sp vs H Q E →
      ∃ t, PSs (cxOf CX0 P w K mg base N qual (defScope st) f cdv A outer s H E).nox (defBody st) t ∧ t { nx := fun _ H' => Q .non H', rt := Q } (start N vs) H
theorem Df.gf (D : Df K mg x qual st ps) (S : FnScope N ps (defScope st)) (len : ∀ vs H Q E, sp vs H Q E → vs.length = ps.length) (hb : BodyOk P w K mg base k N qual st sp) : Gf P w K mg base (k + 1) x ps sp := by
  obtain ⟨f, fd, F, m, b⟩ := D.ex
  exact ⟨f, fd, F.ok S len (hb f), m, F.kp, b⟩
theorem Dm.gm (D : Dm K C x qual st ps) (S : FnScope N ps (defScope st)) (len : ∀ vs H Q E, sp vs H Q E → vs.length = ps.length) (hb : BodyOk P w K mg base k N qual st sp) : Gm P w K mg base (k + 1) C x ps sp := by
  obtain ⟨f, fd, F, m, b⟩ := D.ex
  exact ⟨f, fd, F.ok S len (hb f), m, b⟩
theorem Dc.gc (D : Dc K C qual st ps) (S : FnScope N ps (defScope st)) (len : ∀ vs H Q E, sp vs H Q E → vs.length = ps.length) (hb : BodyOk P w K mg base k N qual st sp) : Gc P w K mg base (k + 1) C ps sp := by
  obtain ⟨f, fd, F, m, b⟩ := D.ex
  exact ⟨f, fd, F.ok S len (hb f), m, b⟩
end
section
variable {X : Cx} {k j : Nat} {C : Addr} {ps : List Str} {sp : Sp} {x m : Str} {p pos apos : Pos} {e o : Expr} {es : List Expr} {ta : TE} {t : TA}
theorem pf (G : Gf X.prog X.w X.K X.mg X.base k x ps sp) (hr : Room j X.A) (ha : PA X (e :: es) t) (hk : k ≤ j := by decide) (hg : Gl X x := by rfl) (hdb : (x == ("__debug__" : Str)) = false := by decide)
    (he : starEach (e :: es) X.env = (false, eval e X.env) :: starEach es X.env := by rfl) (hpl : (backTo pos (starEach es X.env)).any (·.1) = false := by rfl) : PE X (.Call (.Name x p) (e :: es) [] pos) (tCall sp [] E0 t) := by
  obtain ⟨f, fd, F, hm, kp, b⟩ := G.ex
  exact pe_call F (hr.mono hk) hg hm kp b .nil pass0 ha hdb he hpl
theorem pm {pl : Sem Bool} (G : Gm X.prog X.w X.K X.mg X.base k C m ps sp) (hr : Room j X.A) (c : Cls X.K C) (ho : PE X o ta) (ha : PA X (e :: es) t) (hk : k ≤ j := by decide)
    (hst : starEach (e :: es) X.env = (false, eval e X.env) :: starEach es X.env := by rfl) (hpl : (backTo pos (starEach es X.env)).any (·.1) = false := by rfl)
    (ht : eval (.Call (.Attribute o m apos) (e :: es) [] pos) X.env = (do
      let ov ← eval o X.env
      standAt apos.atName
      let (f, first) ← holding [ov] (getMethod ov m pl)
      callWith pos f first (backTo pos (starEach (e :: es) X.env)) (backToKw pos (keywordEach [] X.env))) := by rfl) : PE X (.Call (.Attribute o m apos) (e :: es) [] pos) (tMeth C m sp [] E0 ta t) := by
  obtain ⟨f, fd, F, hm, b⟩ := G.ex
  exact pe_meth ho c hm F (hr.mono hk) b .nil pass0 ha hst hpl ht
theorem pm0 {pl : Sem Bool} (G : Gm X.prog X.w X.K X.mg X.base k C m ps sp) (hr : Room j X.A) (c : Cls X.K C) (ho : PE X o ta) (hk : k ≤ j := by decide)
    (ht : eval (.Call (.Attribute o m apos) [] [] pos) X.env = (do
      let ov ← eval o X.env
      standAt apos.atName
      let (f, first) ← holding [ov] (getMethod ov m pl)
      callWith pos f first (backTo pos (starEach [] X.env)) (backToKw pos (keywordEach [] X.env))) := by rfl) : PE X (.Call (.Attribute o m apos) [] [] pos) (tMeth C m sp [] E0 ta tNil) := by
  obtain ⟨f, fd, F, hm, b⟩ := G.ex
  exact pe_meth0 ho c hm F (hr.mono hk) b .nil pass0 ht
theorem pn (G : Gc X.prog X.w X.K X.mg X.base k C ps sp) (hr : Room j X.A) (hm : X.mg x = some (.ref C)) (ha : PA X (e :: es) t) (hk : k + 1 ≤ j := by decide) (hg : Gl X x := by rfl) (hdb : (x == ("__debug__" : Str)) = false := by decide)
    (he : starEach (e :: es) X.env = (false, eval e X.env) :: starEach es X.env := by rfl) (hpl : (backTo pos (starEach es X.env)).any (·.1) = false := by rfl) : PE X (.Call (.Name x p) (e :: es) [] pos) (tMake C sp [] E0 t) := by
  obtain ⟨f, fd, F, M, b⟩ := G.ex
  exact pe_make M F (hr.mono hk) hg hm b .nil pass0 ha hdb he hpl
theorem pn0 (G : Gc X.prog X.w X.K X.mg X.base k C ps sp) (hr : Room j X.A) (hm : X.mg x = some (.ref C)) (hk : k + 1 ≤ j := by decide) (hg : Gl X x := by rfl) (hdb : (x == ("__debug__" : Str)) = false := by decide) :
    PE X (.Call (.Name x p) [] [] pos) (tMake C sp [] E0 tNil) := by
  obtain ⟨f, fd, F, M, b⟩ := G.ex
  exact pe_make0 M F (hr.mono hk) hg hm b .nil pass0 hdb
/-- len of a list or tuple, of a dict with tuple keys -/
theorem plen (hm : X.mg "len" = none) (ho : PE X o ta) (hg : Gl X "len" := by rfl) (hs : starEach [o] X.env = (false, eval o X.env) :: starEach [] X.env := by rfl) : PE X (.Call (.Name "len" p) [o] [] pos) (tCB (fun xs H Q => ∃ p ys, xs = [.ref p] ∧ (SqL X.K H p ys ∨ SqT X.K H p ys) ∧ Q (.int ys.length) H) (tCons ta tNil)) :=
  pe_callB call_len_seq hg hm PySem.boot_len (pa_cons ho pa_nil hs) (he := hs)
theorem plenT (hm : X.mg "len" = none) (ho : PE X o ta) (hg : Gl X "len" := by rfl) (hs : starEach [o] X.env = (false, eval o X.env) :: starEach [] X.env := by rfl) : PE X (.Call (.Name "len" p) [o] [] pos) (tCB (fun xs H Q => ∃ a kvs, xs = [V.ref a] ∧ H a = some (.dT kvs) ∧ Q (.int kvs.length) H) (tCons ta tNil)) :=
  pe_callB call_lenT hg hm PySem.boot_len (pa_cons ho pa_nil hs) (he := hs)
end
theorem Same.new {H : Hp} {p : Addr} {o : HO} (h : H p = none) : Same H (upd H p o) := fun b u e => by
  rw [upd_ne (ne_of_none e h)]
  exact e
def top (i : Nat) : Stmt := PySem.Challenge.pw_narrowtokens_s01_answers.main.body.getD i (.Pass ⟨0, 0, 0, 0⟩)
abbrev s_sum_of_bytes : Stmt := top 17
theorem sc_sum_of_bytes : FnScope ["row", "total", "byte"] ["row"] (defScope s_sum_of_bytes) := ⟨rfl, rfl, rfl, by decide +kernel, rfl, by decide +kernel, by decide +kernel⟩
abbrev s_eight_bytes : Stmt := top 18
theorem sc_eight_bytes : FnScope ["number", "place"] ["number"] (defScope s_eight_bytes) := ⟨rfl, rfl, rfl, by decide +kernel, rfl, by decide +kernel, by decide +kernel⟩
abbrev s_number_of_bytes : Stmt := top 19
theorem sc_number_of_bytes : FnScope ["row", "number", "byte"] ["row"] (defScope s_number_of_bytes) := ⟨rfl, rfl, rfl, by decide +kernel, rfl, by decide +kernel, by decide +kernel⟩
abbrev s_number_of_halves : Stmt := top 20
theorem sc_number_of_halves : FnScope ["high", "low"] ["high", "low"] (defScope s_number_of_halves) := ⟨rfl, rfl, rfl, by decide +kernel, rfl, by decide +kernel, by decide +kernel⟩
abbrev s_halves : Stmt := top 21
theorem sc_halves : FnScope ["number"] ["number"] (defScope s_halves) := ⟨rfl, rfl, rfl, by decide +kernel, rfl, by decide +kernel, by decide +kernel⟩
abbrev s_first_seal : Stmt := top 22
theorem sc_first_seal : FnScope ["key", "root", "serial"] ["key", "root", "serial"] (defScope s_first_seal) := ⟨rfl, rfl, rfl, by decide +kernel, rfl, by decide +kernel, by decide +kernel⟩
abbrev s_seal_behind : Stmt := top 23
theorem sc_seal_behind : FnScope ["seal", "caveat"] ["seal", "caveat"] (defScope s_seal_behind) := ⟨rfl, rfl, rfl, by decide +kernel, rfl, by decide +kernel, by decide +kernel⟩
abbrev s_right_seal : Stmt := top 24
theorem sc_right_seal : FnScope ["token", "key", "seal", "caveat"] ["token", "key"] (defScope s_right_seal) := ⟨rfl, rfl, rfl, by decide +kernel, rfl, by decide +kernel, by decide +kernel⟩
abbrev s_caveat_row : Stmt := top 25
theorem sc_caveat_row : FnScope ["caveat"] ["caveat"] (defScope s_caveat_row) := ⟨rfl, rfl, rfl, by decide +kernel, rfl, by decide +kernel, by decide +kernel⟩
abbrev s_token_row : Stmt := top 26
theorem sc_token_row : FnScope ["token", "row", "caveat"] ["token"] (defScope s_token_row) := ⟨rfl, rfl, rfl, by decide +kernel, rfl, by decide +kernel, by decide +kernel⟩
abbrev s_read_caveat : Stmt := top 27
theorem sc_read_caveat : FnScope ["row", "place", "start", "length"] ["row", "place"] (defScope s_read_caveat) := ⟨rfl, rfl, rfl, by decide +kernel, rfl, by decide +kernel, by decide +kernel⟩
abbrev s_read_token : Stmt := top 28
theorem sc_read_token : FnScope ["row", "caveats", "place", "caveat"] ["row"] (defScope s_read_token) := ⟨rfl, rfl, rfl, by decide +kernel, rfl, by decide +kernel, by decide +kernel⟩
abbrev s_check : Stmt := top 30
theorem sc_check : FnScope ["row", "token"] ["row"] (defScope s_check) := ⟨rfl, rfl, rfl, by decide +kernel, rfl, by decide +kernel, by decide +kernel⟩
abbrev s_narrow : Stmt := top 31
theorem sc_narrow : FnScope ["kind", "row", "argument", "token", "narrower"] ["kind", "row", "argument"] (defScope s_narrow) := ⟨rfl, rfl, rfl, by decide +kernel, rfl, by decide +kernel, by decide +kernel⟩
abbrev s_with_caveat : Stmt := top 32
theorem sc_with_caveat : FnScope ["token", "caveat"] ["token", "caveat"] (defScope s_with_caveat) := ⟨rfl, rfl, rfl, by decide +kernel, rfl, by decide +kernel, by decide +kernel⟩
abbrev s_tell_sum : Stmt := top 33
theorem sc_tell_sum : FnScope ["row"] ["row"] (defScope s_tell_sum) := ⟨rfl, rfl, rfl, by decide +kernel, rfl, by decide +kernel, by decide +kernel⟩
abbrev s_parts : Stmt := top 34
theorem sc_parts : FnScope ["row", "token", "heads", "arguments", "caveat"] ["row"] (defScope s_parts) := ⟨rfl, rfl, rfl, by decide +kernel, rfl, by decide +kernel, by decide +kernel⟩
abbrev s_first_that_fails : Stmt := top 46
theorem sc_first_that_fails : FnScope ["caveats", "request", "place"] ["caveats", "request"] (defScope s_first_that_fails) := ⟨rfl, rfl, rfl, by decide +kernel, rfl, by decide +kernel, by decide +kernel⟩
abbrev s_holds : Stmt := top 47
theorem sc_holds : FnScope ["caveat", "request", "length", "number"] ["caveat", "request"] (defScope s_holds) := ⟨rfl, rfl, rfl, by decide +kernel, rfl, by decide +kernel, by decide +kernel⟩
abbrev s_has_op : Stmt := top 48
theorem sc_has_op : FnScope ["ops", "op"] ["ops", "op"] (defScope s_has_op) := ⟨rfl, rfl, rfl, by decide +kernel, rfl, by decide +kernel, by decide +kernel⟩
abbrev s_is_counted : Stmt := top 49
theorem sc_is_counted : FnScope ["caveats", "caveat"] ["caveats"] (defScope s_is_counted) := ⟨rfl, rfl, rfl, by decide +kernel, rfl, by decide +kernel, by decide +kernel⟩
abbrev s_without_root : Stmt := top 56
theorem sc_without_root : FnScope ["entries", "root", "kept", "pair"] ["entries", "root"] (defScope s_without_root) := ⟨rfl, rfl, rfl, by decide +kernel, rfl, by decide +kernel, by decide +kernel⟩
abbrev s_answers : Stmt := top 73
theorem sc_answers : FnScope ["calls", "service", "reader", "told", "answer"] ["calls"] (defScope s_answers) := ⟨rfl, rfl, rfl, by decide +kernel, rfl, by decide +kernel, by decide +kernel⟩
abbrev s_answer_next : Stmt := top 74
theorem sc_answer_next : FnScope ["service", "reader", "call", "numbers", "rows", "turn"] ["service", "reader"] (defScope s_answer_next) := ⟨rfl, rfl, rfl, by decide +kernel, rfl, by decide +kernel, by decide +kernel⟩
abbrev s_answer_call : Stmt := top 75
theorem sc_answer_call : FnScope ["service", "call", "numbers", "rows"] ["service", "call", "numbers", "rows"] (defScope s_answer_call) := ⟨rfl, rfl, rfl, by decide +kernel, rfl, by decide +kernel, by decide +kernel⟩
abbrev s_Caveat_init : Stmt := inClass (top 15) 0
theorem sc_Caveat_init : FnScope ["self", "kind", "argument"] ["self", "kind", "argument"] (defScope s_Caveat_init) := ⟨rfl, rfl, rfl, by decide +kernel, rfl, by decide +kernel, by decide +kernel⟩
abbrev s_Token_init : Stmt := inClass (top 16) 0
theorem sc_Token_init : FnScope ["self", "root", "serial", "caveats", "seal"] ["self", "root", "serial", "caveats", "seal"] (defScope s_Token_init) := ⟨rfl, rfl, rfl, by decide +kernel, rfl, by decide +kernel, by decide +kernel⟩
abbrev s_Request_init : Stmt := inClass (top 45) 0
theorem sc_Request_init : FnScope ["self", "now", "op", "path", "use_count"] ["self", "now", "op", "path", "use_count"] (defScope s_Request_init) := ⟨rfl, rfl, rfl, by decide +kernel, rfl, by decide +kernel, by decide +kernel⟩
abbrev s_Service_init : Stmt := inClass (top 55) 0
theorem sc_Service_init : FnScope ["self"] ["self"] (defScope s_Service_init) := ⟨rfl, rfl, rfl, by decide +kernel, rfl, by decide +kernel, by decide +kernel⟩
abbrev s_Service_begin_anew : Stmt := inClass (top 55) 1
theorem sc_Service_begin_anew : FnScope ["self"] ["self"] (defScope s_Service_begin_anew) := ⟨rfl, rfl, rfl, by decide +kernel, rfl, by decide +kernel, by decide +kernel⟩
abbrev s_Service_set_key : Stmt := inClass (top 55) 2
theorem sc_Service_set_key : FnScope ["self", "root", "key"] ["self", "root", "key"] (defScope s_Service_set_key) := ⟨rfl, rfl, rfl, by decide +kernel, rfl, by decide +kernel, by decide +kernel⟩
abbrev s_Service_take_key : Stmt := inClass (top 55) 3
theorem sc_Service_take_key : FnScope ["self", "root"] ["self", "root"] (defScope s_Service_take_key) := ⟨rfl, rfl, rfl, by decide +kernel, rfl, by decide +kernel, by decide +kernel⟩
abbrev s_Service_forget_serials : Stmt := inClass (top 55) 4
theorem sc_Service_forget_serials : FnScope ["self", "root"] ["self", "root"] (defScope s_Service_forget_serials) := ⟨rfl, rfl, rfl, by decide +kernel, rfl, by decide +kernel, by decide +kernel⟩
abbrev s_Service_issue : Stmt := inClass (top 55) 5
theorem sc_Service_issue : FnScope ["self", "root", "high", "low", "serial", "seal", "row"] ["self", "root", "high", "low"] (defScope s_Service_issue) := ⟨rfl, rfl, rfl, by decide +kernel, rfl, by decide +kernel, by decide +kernel⟩
abbrev s_Service_allow : Stmt := inClass (top 55) 6
theorem sc_Service_allow : FnScope ["self", "now", "op", "row", "path", "token", "pair", "failing"] ["self", "now", "op", "row", "path"] (defScope s_Service_allow) := ⟨rfl, rfl, rfl, by decide +kernel, rfl, by decide +kernel, by decide +kernel⟩
abbrev s_Service_seal_is_right : Stmt := inClass (top 55) 7
theorem sc_Service_seal_is_right : FnScope ["self", "token"] ["self", "token"] (defScope s_Service_seal_is_right) := ⟨rfl, rfl, rfl, by decide +kernel, rfl, by decide +kernel, by decide +kernel⟩
abbrev s_Service_count_use : Stmt := inClass (top 55) 8
theorem sc_Service_count_use : FnScope ["self", "pair"] ["self", "pair"] (defScope s_Service_count_use) := ⟨rfl, rfl, rfl, by decide +kernel, rfl, by decide +kernel, by decide +kernel⟩
abbrev s_Service_revoke : Stmt := inClass (top 55) 9
theorem sc_Service_revoke : FnScope ["self", "root", "high", "low", "pair"] ["self", "root", "high", "low"] (defScope s_Service_revoke) := ⟨rfl, rfl, rfl, by decide +kernel, rfl, by decide +kernel, by decide +kernel⟩
abbrev s_Service_uses : Stmt := inClass (top 55) 10
theorem sc_Service_uses : FnScope ["self", "root", "high", "low"] ["self", "root", "high", "low"] (defScope s_Service_uses) := ⟨rfl, rfl, rfl, by decide +kernel, rfl, by decide +kernel, by decide +kernel⟩
abbrev s_Service_right : Stmt := inClass (top 55) 11
theorem sc_Service_right : FnScope ["self", "row", "token"] ["self", "row"] (defScope s_Service_right) := ⟨rfl, rfl, rfl, by decide +kernel, rfl, by decide +kernel, by decide +kernel⟩
abbrev s_Reader_init : Stmt := inClass (top 72) 0
theorem sc_Reader_init : FnScope ["self", "calls"] ["self", "calls"] (defScope s_Reader_init) := ⟨rfl, rfl, rfl, by decide +kernel, rfl, by decide +kernel, by decide +kernel⟩
abbrev s_Reader_at_end : Stmt := inClass (top 72) 1
theorem sc_Reader_at_end : FnScope ["self"] ["self"] (defScope s_Reader_at_end) := ⟨rfl, rfl, rfl, by decide +kernel, rfl, by decide +kernel, by decide +kernel⟩
abbrev s_Reader_take_number : Stmt := inClass (top 72) 2
theorem sc_Reader_take_number : FnScope ["self", "number"] ["self"] (defScope s_Reader_take_number) := ⟨rfl, rfl, rfl, by decide +kernel, rfl, by decide +kernel, by decide +kernel⟩
abbrev s_Reader_take_row : Stmt := inClass (top 72) 3
theorem sc_Reader_take_row : FnScope ["self", "length", "row"] ["self"] (defScope s_Reader_take_row) := ⟨rfl, rfl, rfl, by decide +kernel, rfl, by decide +kernel, by decide +kernel⟩
/-! ### what the top has written -/
structure Txt (K : PySem.W.Frag) (mg : Str → Option Value) (CC CT CQ CS CR : Addr) : Prop where
  c_FIRST_SUM : ∃ t, mg "FIRST_SUM" = some (.int 14695981039346656037 t)
  c_SUM_FACTOR : ∃ t, mg "SUM_FACTOR" = some (.int 1099511628211 t)
  c_TWO_TO_32 : ∃ t, mg "TWO_TO_32" = some (.int 4294967296 t)
  c_TWO_TO_64 : ∃ t, mg "TWO_TO_64" = some (.int 18446744073709551616 t)
  c_SERIAL_PLACE : ∃ t, mg "SERIAL_PLACE" = some (.int 1 t)
  c_COUNT_PLACE : ∃ t, mg "COUNT_PLACE" = some (.int 9 t)
  c_CAVEATS_PLACE : ∃ t, mg "CAVEATS_PLACE" = some (.int 10 t)
  c_SEAL_LENGTH : ∃ t, mg "SEAL_LENGTH" = some (.int 8 t)
  c_MOST_CAVEATS : ∃ t, mg "MOST_CAVEATS" = some (.int 6 t)
  c_CAVEAT_HEAD : ∃ t, mg "CAVEAT_HEAD" = some (.int 2 t)
  c_HIGHEST_KIND : ∃ t, mg "HIGHEST_KIND" = some (.int 255 t)
  c_LONGEST_ARGUMENT : ∃ t, mg "LONGEST_ARGUMENT" = some (.int 16 t)
  c_FIRST_SEAL_MARK : ∃ t, mg "FIRST_SEAL_MARK" = some (.int 0 t)
  c_CAVEAT_SEAL_MARK : ∃ t, mg "CAVEAT_SEAL_MARK" = some (.int 1 t)
  c_KIND_BEFORE : ∃ t, mg "KIND_BEFORE" = some (.int 1 t)
  c_KIND_FROM : ∃ t, mg "KIND_FROM" = some (.int 2 t)
  c_KIND_OPS : ∃ t, mg "KIND_OPS" = some (.int 3 t)
  c_KIND_PATH : ∃ t, mg "KIND_PATH" = some (.int 4 t)
  c_KIND_USES : ∃ t, mg "KIND_USES" = some (.int 5 t)
  c_MOMENT_LENGTH : ∃ t, mg "MOMENT_LENGTH" = some (.int 8 t)
  c_OPS_LENGTH : ∃ t, mg "OPS_LENGTH" = some (.int 4 t)
  c_USES_LENGTH : ∃ t, mg "USES_LENGTH" = some (.int 4 t)
  c_HOW_MANY_OPS : ∃ t, mg "HOW_MANY_OPS" = some (.int 32 t)
  c_HIGHEST_ROOT : ∃ t, mg "HIGHEST_ROOT" = some (.int 7 t)
  c_KEY_LENGTH : ∃ t, mg "KEY_LENGTH" = some (.int 8 t)
  c_MOST_REVOCATIONS : ∃ t, mg "MOST_REVOCATIONS" = some (.int 16 t)
  c_MOST_COUNTS : ∃ t, mg "MOST_COUNTS" = some (.int 16 t)
  c_INIT : ∃ t, mg "INIT" = some (.int 0 t)
  c_ROOT : ∃ t, mg "ROOT" = some (.int 1 t)
  c_UNROOT : ∃ t, mg "UNROOT" = some (.int 2 t)
  c_ISSUE : ∃ t, mg "ISSUE" = some (.int 3 t)
  c_CHECK : ∃ t, mg "CHECK" = some (.int 4 t)
  c_NARROW : ∃ t, mg "NARROW" = some (.int 5 t)
  c_ALLOW : ∃ t, mg "ALLOW" = some (.int 6 t)
  c_REVOKE : ∃ t, mg "REVOKE" = some (.int 7 t)
  c_USES : ∃ t, mg "USES" = some (.int 8 t)
  c_RIGHT : ∃ t, mg "RIGHT" = some (.int 9 t)
  c_SUM : ∃ t, mg "SUM" = some (.int 10 t)
  c_HOW_MANY_NUMBERS : ∃ a, mg "HOW_MANY_NUMBERS" = some (.ref a) ∧ TupK K a [0, 1, 1, 3, 0, 1, 2, 3, 3, 0, 0, 0]
  c_HOW_MANY_ROWS : ∃ a, mg "HOW_MANY_ROWS" = some (.ref a) ∧ TupK K a [0, 1, 0, 0, 1, 2, 2, 0, 0, 1, 1, 1]
  b_len : mg "len" = none
  b_range : mg "range" = none
  b_reversed : mg "reversed" = none
  b_any : mg "any" = none
  d_sum_of_bytes : Df K mg "sum_of_bytes" "sum_of_bytes" s_sum_of_bytes ["row"]
  d_eight_bytes : Df K mg "eight_bytes" "eight_bytes" s_eight_bytes ["number"]
  d_number_of_bytes : Df K mg "number_of_bytes" "number_of_bytes" s_number_of_bytes ["row"]
  d_number_of_halves : Df K mg "number_of_halves" "number_of_halves" s_number_of_halves ["high", "low"]
  d_halves : Df K mg "halves" "halves" s_halves ["number"]
  d_first_seal : Df K mg "first_seal" "first_seal" s_first_seal ["key", "root", "serial"]
  d_seal_behind : Df K mg "seal_behind" "seal_behind" s_seal_behind ["seal", "caveat"]
  d_right_seal : Df K mg "right_seal" "right_seal" s_right_seal ["token", "key"]
  d_caveat_row : Df K mg "caveat_row" "caveat_row" s_caveat_row ["caveat"]
  d_token_row : Df K mg "token_row" "token_row" s_token_row ["token"]
  d_read_caveat : Df K mg "read_caveat" "read_caveat" s_read_caveat ["row", "place"]
  d_read_token : Df K mg "read_token" "read_token" s_read_token ["row"]
  d_check : Df K mg "check" "check" s_check ["row"]
  d_narrow : Df K mg "narrow" "narrow" s_narrow ["kind", "row", "argument"]
  d_with_caveat : Df K mg "with_caveat" "with_caveat" s_with_caveat ["token", "caveat"]
  d_tell_sum : Df K mg "tell_sum" "tell_sum" s_tell_sum ["row"]
  d_parts : Df K mg "parts" "parts" s_parts ["row"]
  d_first_that_fails : Df K mg "first_that_fails" "first_that_fails" s_first_that_fails ["caveats", "request"]
  d_holds : Df K mg "holds" "holds" s_holds ["caveat", "request"]
  d_has_op : Df K mg "has_op" "has_op" s_has_op ["ops", "op"]
  d_is_counted : Df K mg "is_counted" "is_counted" s_is_counted ["caveats"]
  d_without_root : Df K mg "without_root" "without_root" s_without_root ["entries", "root"]
  d_answers : Df K mg "answers" "answers" s_answers ["calls"]
  d_answer_next : Df K mg "answer_next" "answer_next" s_answer_next ["service", "reader"]
  d_answer_call : Df K mg "answer_call" "answer_call" s_answer_call ["service", "call", "numbers", "rows"]
  cl_Caveat : Cls K CC
  mg_Caveat : mg "Caveat" = some (.ref CC)
  n_Caveat_kind : NoAttr K CC "kind"
  n_Caveat_argument : NoAttr K CC "argument"
  cl_Token : Cls K CT
  mg_Token : mg "Token" = some (.ref CT)
  n_Token_root : NoAttr K CT "root"
  n_Token_serial : NoAttr K CT "serial"
  n_Token_caveats : NoAttr K CT "caveats"
  n_Token_seal : NoAttr K CT "seal"
  cl_Request : Cls K CQ
  mg_Request : mg "Request" = some (.ref CQ)
  n_Request_now : NoAttr K CQ "now"
  n_Request_op : NoAttr K CQ "op"
  n_Request_path : NoAttr K CQ "path"
  n_Request_use_count : NoAttr K CQ "use_count"
  cl_Service : Cls K CS
  mg_Service : mg "Service" = some (.ref CS)
  n_Service_root_keys : NoAttr K CS "root_keys"
  n_Service_revocations : NoAttr K CS "revocations"
  n_Service_counts : NoAttr K CS "counts"
  cl_Reader : Cls K CR
  mg_Reader : mg "Reader" = some (.ref CR)
  n_Reader_calls : NoAttr K CR "calls"
  n_Reader_place : NoAttr K CR "place"
  n_Service_at_end : NoAttr K CS "at_end"
  d_Caveat_init : Dc K CC "Caveat.__init__" s_Caveat_init ["self", "kind", "argument"]
  d_Token_init : Dc K CT "Token.__init__" s_Token_init ["self", "root", "serial", "caveats", "seal"]
  d_Request_init : Dc K CQ "Request.__init__" s_Request_init ["self", "now", "op", "path", "use_count"]
  d_Service_init : Dc K CS "Service.__init__" s_Service_init ["self"]
  d_Service_begin_anew : Dm K CS "begin_anew" "Service.begin_anew" s_Service_begin_anew ["self"]
  d_Service_set_key : Dm K CS "set_key" "Service.set_key" s_Service_set_key ["self", "root", "key"]
  d_Service_take_key : Dm K CS "take_key" "Service.take_key" s_Service_take_key ["self", "root"]
  d_Service_forget_serials : Dm K CS "forget_serials" "Service.forget_serials" s_Service_forget_serials ["self", "root"]
  d_Service_issue : Dm K CS "issue" "Service.issue" s_Service_issue ["self", "root", "high", "low"]
  d_Service_allow : Dm K CS "allow" "Service.allow" s_Service_allow ["self", "now", "op", "row", "path"]
  d_Service_seal_is_right : Dm K CS "seal_is_right" "Service.seal_is_right" s_Service_seal_is_right ["self", "token"]
  d_Service_count_use : Dm K CS "count_use" "Service.count_use" s_Service_count_use ["self", "pair"]
  d_Service_revoke : Dm K CS "revoke" "Service.revoke" s_Service_revoke ["self", "root", "high", "low"]
  d_Service_uses : Dm K CS "uses" "Service.uses" s_Service_uses ["self", "root", "high", "low"]
  d_Service_right : Dm K CS "right" "Service.right" s_Service_right ["self", "row"]
  d_Reader_init : Dc K CR "Reader.__init__" s_Reader_init ["self", "calls"]
  d_Reader_at_end : Dm K CR "at_end" "Reader.at_end" s_Reader_at_end ["self"]
  d_Reader_take_number : Dm K CR "take_number" "Reader.take_number" s_Reader_take_number ["self"]
  d_Reader_take_row : Dm K CR "take_row" "Reader.take_row" s_Reader_take_row ["self"]
end NT
set_option Elab.async false
set_option linter.all false
set_option maxRecDepth 100000
set_option maxHeartbeats 2000000
namespace NT
open PySem PySem.Spec PyProof.Rows L2
/-! ### rows of bytes -/
def bv (b : List UInt8) : List V := b.map fun c => V.int (c.toNat : Int)
theorem bv_len (b : List UInt8) : (bv b).length = b.length := List.length_map _
theorem bv_app (a b : List UInt8) : bv (a ++ b) = bv a ++ bv b := List.map_append
theorem bv_get {b : List UInt8} {i : Nat} {y : V} (h : (bv b)[i]? = some y) : ∃ c, b[i]? = some c ∧ y = .int (c.toNat : Int) := by
  unfold bv at h
  rw [List.getElem?_map] at h
  cases e : b[i]? with
  | none => rw [e] at h; cases h
  | some c => rw [e] at h; exact ⟨c, rfl, (Option.some.inj h).symm⟩
theorem bv_at {b : List UInt8} {i : Nat} {c : UInt8} (h : b[i]? = some c) : (bv b)[i]? = some (.int (c.toNat : Int)) := by
  unfold bv
  rw [List.getElem?_map, h]
  rfl
theorem take_snoc {α : Type} : ∀ {l : List α} {i : Nat} {x : α}, l[i]? = some x → l.take (i + 1) = l.take i ++ [x]
  | [], i, x, h => by simp at h
  | a :: l, 0, x, h => by
    have e : a = x := Option.some.inj h
    subst e
    rfl
  | a :: l, i + 1, x, h => by
    have ih := take_snoc (l := l) (i := i) (x := x) h
    show a :: l.take (i + 1) = a :: l.take i ++ [x]
    rw [ih]
    rfl
theorem drop_cons {α : Type} : ∀ {l : List α} {i : Nat} {x : α}, l[i]? = some x → l.drop i = x :: l.drop (i + 1)
  | [], i, x, h => by simp at h
  | a :: l, 0, x, h => by
    have e : a = x := Option.some.inj h
    subst e
    rfl
  | a :: l, i + 1, x, h => by
    show l.drop i = x :: l.drop (i + 1)
    exact drop_cons h
/-! ### the sum of bytes -/
theorem hash_snoc (b : List UInt8) (c : UInt8) : Nt.hash (b ++ [c]) = (Nt.hash b ^^^ c.toNat) * 1099511628211 % Nt.WORD := by
  unfold Nt.hash
  rw [List.foldl_append, List.foldl_cons, List.foldl_nil]
theorem word_eq : Nt.WORD = 18446744073709551616 := by decide
theorem hash_step (h c : Nat) : Builtin.bitXor (h : Int) (c : Int) * 1099511628211 % 18446744073709551616 = (((h ^^^ c) * 1099511628211 % Nt.WORD : Nat) : Int) := by
  rw [Bits.bitXor_pp (by omega) (by omega), Int.toNat_natCast, Int.toNat_natCast, word_eq]
  generalize h ^^^ c = m
  rw [Int.natCast_emod, Int.natCast_mul]
  rfl
theorem hash_lt (b : List UInt8) : Nt.hash b < 2 ^ 64 := by
  rcases List.eq_nil_or_concat b with e | ⟨l, c, e⟩
  · subst e
    decide
  · subst e
    rw [List.concat_eq_append, hash_snoc]
    exact Nat.mod_lt _ (by decide)
/-! ### numbers in bytes -/
theorem le_len : ∀ w n : Nat, (Nt.le w n).length = w
  | 0, _ => rfl
  | w + 1, n => by
    show (Nt.le w (n / 256)).length + 1 = w + 1
    rw [le_len w]
theorem toNat_ofNat256 (n : Nat) : (UInt8.ofNat (n % 256)).toNat = n % 256 := by
  rw [UInt8.toNat_ofNat']
  omega
theorem le_get : ∀ (w n i : Nat), i < w → (Nt.le w n)[i]? = some (UInt8.ofNat (n / 2 ^ (8 * i) % 256))
  | 0, _, _, h => absurd h (Nat.not_lt_zero _)
  | w + 1, n, 0, _ => by
    show some (UInt8.ofNat (n % 256)) = _
    simp
  | w + 1, n, i + 1, h => by
    show (Nt.le w (n / 256))[i]? = _
    rw [le_get w (n / 256) i (by omega), Nat.div_div_eq_div_mul, show 256 * 2 ^ (8 * i) = 2 ^ (8 * (i + 1)) by rw [Nat.mul_add, Nat.pow_add, Nat.mul_comm]]
theorem le1 {n : Nat} (h : n < 256) : Nt.le 1 n = [UInt8.ofNat n] := by
  show [UInt8.ofNat (n % 256)] = _
  rw [Nat.mod_eq_of_lt h]
theorem bv_le1 {n : Nat} (h : n < 256) : bv (Nt.le 1 n) = [.int (n : Int)] := by
  rw [le1 h]
  show [V.int ((UInt8.ofNat n).toNat : Int)] = _
  rw [UInt8.toNat_ofNat', Nat.mod_eq_of_lt (by omega : n < 2 ^ 8)]
theorem num_cons (c : UInt8) (r : List UInt8) : Nt.num (c :: r) = c.toNat + 256 * Nt.num r := rfl
theorem num_lt : ∀ b : List UInt8, Nt.num b < 256 ^ b.length
  | [] => by decide
  | c :: r => by
    have ih := num_lt r
    have hc : c.toNat < 256 := c.toNat_lt
    rw [num_cons, List.length_cons, Nat.pow_succ]
    omega
theorem le_num : ∀ b : List UInt8, Nt.le b.length (Nt.num b) = b
  | [] => rfl
  | c :: r => by
    have hc : c.toNat < 256 := c.toNat_lt
    show UInt8.ofNat (Nt.num (c :: r) % 256) :: Nt.le r.length (Nt.num (c :: r) / 256) = c :: r
    rw [num_cons, show (c.toNat + 256 * Nt.num r) % 256 = c.toNat by omega, show (c.toNat + 256 * Nt.num r) / 256 = Nt.num r by omega, le_num r]
    congr 1
    exact UInt8.ofNat_toNat
theorem num_le : ∀ (w n : Nat), n < 256 ^ w → Nt.num (Nt.le w n) = n
  | 0, n, h => by
    have e : n = 0 := by simpa using h
    subst e
    rfl
  | w + 1, n, h => by
    show (UInt8.ofNat (n % 256)).toNat + 256 * Nt.num (Nt.le w (n / 256)) = n
    rw [num_le w (n / 256) (by rw [Nat.pow_succ] at h; omega), toNat_ofNat256]
    omega
/-! ### the objects of the program -/
abbrev cf (k a : V) : List (Str × V) := [("kind", k), ("argument", a)]
abbrev tf (r s c l : V) : List (Str × V) := [("root", r), ("serial", s), ("caveats", c), ("seal", l)]
abbrev qf (n o p u : V) : List (Str × V) := [("now", n), ("op", o), ("path", p), ("use_count", u)]
abbrev sf (k r c : V) : List (Str × V) := [("root_keys", k), ("revocations", r), ("counts", c)]
abbrev rf (c p : V) : List (Str × V) := [("calls", c), ("place", p)]
def RowAt (H : Hp) (a : Addr) (b : List UInt8) : Prop := H a = some (.lst (bv b))
theorem RowAt.same {H H' : Hp} {a : Addr} {b : List UInt8} (h : RowAt H a b) (s : Same H H') : RowAt H' a b := s _ _ h
def CavAt (CC : Addr) (H : Hp) (p : Addr) (c : Nt.Caveat) : Prop := ∃ dx a, H p = some (.ins CC dx (cf (.int (c.kind : Int)) (.ref a))) ∧ RowAt H a c.arg
theorem CavAt.same {CC : Addr} {H H' : Hp} {p : Addr} {c : Nt.Caveat} (h : CavAt CC H p c) (s : Same H H') : CavAt CC H' p c := by
  obtain ⟨dx, a, h1, h2⟩ := h
  exact ⟨dx, a, s _ _ h1, s _ _ h2⟩
structure CavOk (c : Nt.Caveat) : Prop where
  kind : c.kind < 256
  len : c.arg.length ≤ 16
/-- the caveats at ps are cs -/
def CavsAt (CC : Addr) (H : Hp) (ps : List Addr) (cs : List Nt.Caveat) : Prop := ps.length = cs.length ∧ ∀ (i : Nat) (p : Addr) (c : Nt.Caveat), ps[i]? = some p → cs[i]? = some c → CavAt CC H p c
theorem CavsAt.same {CC : Addr} {H H' : Hp} {ps : List Addr} {cs : List Nt.Caveat} (h : CavsAt CC H ps cs) (s : Same H H') : CavsAt CC H' ps cs := ⟨h.1, fun i p c h1 h2 => (h.2 i p c h1 h2).same s⟩
theorem CavsAt.nil {CC : Addr} {H : Hp} : CavsAt CC H [] [] := ⟨rfl, fun i p c h => by simp at h⟩
theorem CavsAt.get {CC : Addr} {H : Hp} {ps : List Addr} {cs : List Nt.Caveat} (h : CavsAt CC H ps cs) {i : Nat} {y : V} (hi : (ps.map V.ref)[i]? = some y) : ∃ p c, y = .ref p ∧ cs[i]? = some c ∧ CavAt CC H p c := by
  rw [List.getElem?_map] at hi
  cases e : ps[i]? with
  | none => rw [e] at hi; cases hi
  | some p =>
    rw [e] at hi
    have hl : i < cs.length := by rw [← h.1]; exact (List.getElem?_eq_some_iff.mp e).1
    exact ⟨p, cs[i], (Option.some.inj hi).symm, List.getElem?_eq_getElem hl, h.2 i p _ e (List.getElem?_eq_getElem hl)⟩
theorem CavsAt.snoc {CC : Addr} {H : Hp} {ps : List Addr} {cs : List Nt.Caveat} {p : Addr} {c : Nt.Caveat} (h : CavsAt CC H ps cs) (hp : CavAt CC H p c) : CavsAt CC H (ps ++ [p]) (cs ++ [c]) := by
  refine ⟨by rw [List.length_append, List.length_append, h.1]; rfl, fun i q d h1 h2 => ?_⟩
  by_cases hi : i < ps.length
  · rw [List.getElem?_append_left hi] at h1
    rw [List.getElem?_append_left (by rw [← h.1]; exact hi)] at h2
    exact h.2 i q d h1 h2
  · rw [List.getElem?_append_right (by omega)] at h1
    rw [List.getElem?_append_right (by rw [← h.1]; omega)] at h2
    have e1 : i - ps.length = 0 := by
      have := (List.getElem?_eq_some_iff.mp h1).1
      simp at this
      omega
    rw [← h.1, e1] at h2
    rw [e1] at h1
    have a1 : p = q := Option.some.inj h1
    have a2 : c = d := Option.some.inj h2
    subst a1
    subst a2
    exact hp
structure TokAt (CC CT : Addr) (H : Hp) (p : Addr) (t : Nt.Token) : Prop where
  ex : ∃ dx sa ca la ps, H p = some (.ins CT dx (tf (.int (t.root : Int)) (.ref sa) (.ref ca) (.ref la))) ∧ RowAt H sa (Nt.le 8 t.serial) ∧ H ca = some (.lst (ps.map V.ref)) ∧ CavsAt CC H ps t.caveats ∧ RowAt H la t.seal_
theorem TokAt.same {CC CT : Addr} {H H' : Hp} {p : Addr} {t : Nt.Token} (h : TokAt CC CT H p t) (s : Same H H') : TokAt CC CT H' p t := by
  obtain ⟨dx, sa, ca, la, ps, h1, h2, h3, h4, h5⟩ := h.ex
  exact ⟨dx, sa, ca, la, ps, s _ _ h1, h2.same s, s _ _ h3, h4.same s, h5.same s⟩
structure TokOk (t : Nt.Token) : Prop where
  root : t.root < 256
  serial : t.serial < 2 ^ 64
  few : t.caveats.length ≤ 7
  cavs : ∀ c ∈ t.caveats, CavOk c
  seal_ : t.seal_.length = 8
/-- a new instance, its __init__ done -/
theorem Same.inst {H : Hp} {x dx : Addr} {o : HO} (nx : H x = Option.none) (nd : H dx = Option.none) : Same H (upd (upd H dx (.own x)) x o) := fun b u e => by
  rw [upd_ne (ne_of_none e nx), upd_ne (ne_of_none e nd)]
  exact e
theorem Same.over {H H' : Hp} {q : Addr} {o : HO} (s : Same H H') (hq : H q = none) : Same H (upd H' q o) := fun b u e => by
  rw [upd_ne (ne_of_none e hq)]
  exact s _ _ e
end NT
set_option Elab.async false
set_option linter.all false
set_option maxRecDepth 100000
set_option maxHeartbeats 2000000
namespace NT
open PySem PySem.Spec PyProof.Rows L2
theorem for_rev {K : PySem.W.Frag} {a : Addr} {xs : List V} {g : TG} {tb : TS} {D : Ends} {σ : L2.St} {H : Hp} (Pv : Nat → L2.St → Hp → Prop) (h0 : Pv 0 σ H) (hl : ∀ i σ H, i ≤ xs.length → Pv i σ H → SqL K H a xs)
    (hs : ∀ i x σ H, i < xs.length → xs[xs.length - 1 - i]? = some x → Pv i σ H → g x σ H fun σ2 H2 => tb { D with nx := Pv (i + 1), ct := Pv (i + 1), bk := D.nx } σ2 H2) (hd : ∀ σ H, Pv xs.length σ H → D.nx σ H) :
    ∃ W : Nat → Nat → L2.St → Hp → Prop, (∃ m, W 0 m σ H) ∧ ∀ i m σ H, W i m σ H →
      ((Itv K a xs.length).stop i H ∧ D.nx σ H) ∨ ((Itv K a xs.length).go i H ∧ ∃ N : L2.St → Hp → Prop, (∀ σ' H', N σ' H' → ∃ m', m' < m ∧ W (i + 1) m' σ' H') ∧ ∀ x H', (Itv K a xs.length).yld i H x H' → g x σ H' fun σ2 H2 => tb { D with nx := N, ct := N, bk := D.nx } σ2 H2) := by
  refine ⟨fun i m σ H => m = xs.length - i ∧ i ≤ xs.length ∧ Pv i σ H, ⟨xs.length, by simp, Nat.zero_le _, h0⟩, ?_⟩
  rintro i m σ H ⟨rfl, hi, p⟩
  have q := hl i σ H hi p
  by_cases hlt : i < xs.length
  · have hx : xs.length - 1 - i < xs.length := by omega
    refine .inr ⟨⟨hlt, xs, xs[xs.length - 1 - i], q, by simp [hx]⟩, Pv (i + 1), fun σ' H' p' => ⟨xs.length - (i + 1), by omega, rfl, hlt, p'⟩, fun x H' y => ?_⟩
    obtain ⟨e, y⟩ := y
    subst e
    exact hs i x σ _ hlt (y xs q) p
  · have e : i = xs.length := by omega
    subst e
    exact .inl ⟨Nat.le_refl _, hd σ H p⟩
/-! ### the promises of token_form -/
def spSum : Sp := fun vs H Q _ => ∃ (a : Addr) (b : List UInt8), vs = [.ref a] ∧ RowAt H a b ∧ Q (.int (Nt.hash b : Nat)) H
def spEight : Sp := fun vs H Q _ => ∃ n : Nat, vs = [.int (n : Int)] ∧ ∀ (H' : Hp) (p : Addr), Same H H' → RowAt H' p (Nt.le 8 n) → Q (.ref p) H'
def spNum : Sp := fun vs H Q _ => ∃ (a : Addr) (b : List UInt8), vs = [.ref a] ∧ RowAt H a b ∧ Q (.int (Nt.num b : Nat)) H
def spHalf : Sp := fun vs H Q _ => ∃ h l : Nat, vs = [.int (h : Int), .int (l : Int)] ∧ Q (.int (NtDesk.serialOf h l : Nat)) H
def spHalves : Sp := fun vs H Q _ => ∃ n : Nat, vs = [.int (n : Int)] ∧ ∀ p, H p = none → Q (.ref p) (upd H p (.lst [.int (n / 4294967296 : Nat), .int (n % 4294967296 : Nat)]))
def spCav (CC : Addr) : Sp := fun vs H Q _ => ∃ p dx k a, vs = [.ref p, k, a] ∧ H p = some (.ins CC dx []) ∧ Q .non (upd H p (.ins CC dx (cf k a)))
def spTok (CT : Addr) : Sp := fun vs H Q _ => ∃ p dx r s c l, vs = [.ref p, r, s, c, l] ∧ H p = some (.ins CT dx []) ∧ Q .non (upd H p (.ins CT dx (tf r s c l)))
section
variable {P : Program} {w : World} {K : PySem.W.Frag} {mg : Str → Option Value} {base : Heap} {CC CT CQ CS CR : Addr}
theorem g_Caveat (T : Txt K mg CC CT CQ CS CR) : Gc P w K mg base 1 CC ["self", "kind", "argument"] (spCav CC) := by
  refine T.d_Caveat_init.gc sc_Caveat_init (fun vs H Q E h => ?_) (fun f cdv A outer s H vs Q E hr h => ?_)
  · obtain ⟨p, dx, k, a, rfl, _⟩ := h
    rfl
  · obtain ⟨p, dx, k, a, rfl, hp, q⟩ := h
    refine ⟨_, pss_cons (ps_fld (pv 0) (pv 1) rfl) (pss_one (ps_fld (pv 0) (pv 2) rfl)), ?_⟩
    refine ⟨_, rfl, _, rfl, p, CC, dx, _, rfl, hp, T.cl_Caveat, T.n_Caveat_kind, (by decide), ?_⟩
    refine ⟨_, rfl, _, rfl, p, CC, dx, _, rfl, upd_same, T.cl_Caveat, T.n_Caveat_argument, (by show 1 < 1000; decide), ?_⟩
    rw [upd_upd]
    exact q
theorem g_Token (T : Txt K mg CC CT CQ CS CR) : Gc P w K mg base 1 CT ["self", "root", "serial", "caveats", "seal"] (spTok CT) := by
  refine T.d_Token_init.gc sc_Token_init (fun vs H Q E h => ?_) (fun f cdv A outer s H vs Q E hr h => ?_)
  · obtain ⟨p, dx, r, s, c, l, rfl, _⟩ := h
    rfl
  · obtain ⟨p, dx, r, s, c, l, rfl, hp, q⟩ := h
    refine ⟨_, pss_cons (ps_fld (pv 0) (pv 1) rfl) (pss_cons (ps_fld (pv 0) (pv 2) rfl) (pss_cons (ps_fld (pv 0) (pv 3) rfl) (pss_one (ps_fld (pv 0) (pv 4) rfl)))), ?_⟩
    refine ⟨_, rfl, _, rfl, p, CT, dx, _, rfl, hp, T.cl_Token, T.n_Token_root, (by decide), ?_⟩
    refine ⟨_, rfl, _, rfl, p, CT, dx, _, rfl, upd_same, T.cl_Token, T.n_Token_serial, (by show 1 < 1000; decide), ?_⟩
    refine ⟨_, rfl, _, rfl, p, CT, dx, _, rfl, upd_same, T.cl_Token, T.n_Token_caveats, (by show 2 < 1000; decide), ?_⟩
    refine ⟨_, rfl, _, rfl, p, CT, dx, _, rfl, upd_same, T.cl_Token, T.n_Token_seal, (by show 3 < 1000; decide), ?_⟩
    rw [upd_upd, upd_upd, upd_upd]
    exact q
theorem g_sum (T : Txt K mg CC CT CQ CS CR) : Gf P w K mg base 1 "sum_of_bytes" ["row"] spSum := by
  refine T.d_sum_of_bytes.gf sc_sum_of_bytes (fun vs H Q E h => ?_) (fun f cdv A outer s H vs Q E hr h => ?_)
  · obtain ⟨a, b, rfl, _⟩ := h
    rfl
  · obtain ⟨a, b, rfl, ha, q⟩ := h
    refine ⟨_, pss_cons (ps_set (i := 1) sc_sum_of_bytes.nd rfl (Or.inl rfl) (pk T.c_FIRST_SUM))
      (pss_cons (ps_for PassesOwn.never rfl (pi_list (pv 0)) (pg_name (i := 2) sc_sum_of_bytes.nd rfl (Or.inl rfl)) (pss_one (ps_set (i := 1) sc_sum_of_bytes.nd rfl (Or.inl rfl) (pe_op op_mod (pe_op op_mul (pe_op op_xor (pv 1) (pv 2)) (pk T.c_SUM_FACTOR)) (pk T.c_TWO_TO_64)))))
      (pss_one (ps_ret (pv 1)))), ?_⟩
    refine ⟨_, rfl, a, rfl, ⟨_, SqL.of ha⟩, for_list (K := K) (a := a) (xs := bv b) (fun i σ H' => ∃ v : Option V, σ = [some (.ref a), some (.int (Nt.hash (b.take i) : Nat)), v] ∧ H' = H)
      ⟨none, rfl, rfl⟩ (fun i σ H' _ ⟨_, _, e⟩ => by rw [e]; exact SqL.of ha) ?_ ?_⟩
    · rintro i y σ H' hi ⟨v, rfl, rfl⟩
      obtain ⟨c, hc, rfl⟩ := bv_get hi
      refine ⟨_, rfl, _, rfl, _, _, rfl, rfl, _, _, rfl, rfl, .inr ⟨by decide, by decide⟩, _, _, rfl, rfl, (by show (0 : Int) < 18446744073709551616; decide), ?_⟩
      refine ⟨some (.int c.toNat), ?_, rfl⟩
      show [some (V.ref a), some (V.int (_ % _)), _] = _
      rw [hash_step, take_snoc hc, hash_snoc]
    · rintro σ H' ⟨v, rfl, rfl⟩
      refine ⟨_, rfl, ?_⟩
      rw [bv_len, List.take_length]
      exact q
theorem g_eight (T : Txt K mg CC CT CQ CS CR) : Gf P w K mg base 1 "eight_bytes" ["number"] spEight := by
  refine T.d_eight_bytes.gf sc_eight_bytes (fun vs H Q E h => ?_) (fun f cdv A outer s H vs Q E hr h => ?_)
  · obtain ⟨n, rfl, _⟩ := h
    rfl
  · obtain ⟨n, rfl, q⟩ := h
    refine ⟨_, pss_one (ps_ret (pe_lc (own := [("place", 1)]) rfl sc_eight_bytes.nd (pi_range1 rfl T.b_range (pa_cons pe_int pa_nil)) (blkOk_by (N := ["number", "place"]) (sc := defScope s_eight_bytes) (by decide +kernel)) (fun _ _ _ _ _ => pg_name (i := 1) sc_eight_bytes.nd rfl (Or.inl rfl)) (fun _ _ _ _ _ => pts_nil)
      (fun _ _ _ _ _ => pe_op op_and (pe_op op_shr (pv 0) (pe_op op_mul pe_int (pv 1))) pe_int))), ?_⟩
    refine ⟨8, rfl, by decide, by decide, fun D hD => lc_range (lo := 0) (n := 8) (fun i H' => H' = upd H D (.lst (bv ((Nt.le 8 n).take i)))) rfl ?_ ?_⟩
    · rintro i H' hi rfl
      refine ⟨rfl, ?_⟩
      unfold tYes
      dsimp only
      rw [if_pos rfl]
      refine ⟨_, rfl, _, rfl, _, _, rfl, rfl, .inl ⟨by decide, by decide⟩, _, _, rfl, rfl, (by omega), _, _, rfl, rfl, _, upd_same, ?_, ?_⟩
      · rw [bv_len]
        exact small1000 (Nat.le_trans (List.length_take_le _ _) (by omega))
      · rw [upd_upd]
        congr 2
        have e1 := le_get 8 n i hi
        rw [take_snoc e1, bv_app]
        congr 1
        show [V.int _] = [V.int _]
        rw [toNat_ofNat256]
        have h8 : (8 * (0 + (i : Int))).toNat = 8 * i := by omega
        rw [h8, show (255 : Int) = 2 ^ 8 - 1 from rfl, Bits.bitAnd_mask 8 (Int.ediv_nonneg (by omega) (two_pow_nn _)), two_pow_cast]
        congr 2
    · rintro H' rfl
      refine q _ D (Same.new hD) ?_
      show upd _ _ _ D = _
      rw [upd_same, List.take_of_length_le (by rw [le_len]; omega)]
theorem num_drop {b : List UInt8} {i : Nat} {c : UInt8} (hi : i < b.length) (h : b[b.length - 1 - i]? = some c) : (Nt.num (b.drop (b.length - i)) : Int) * 256 + (c.toNat : Int) = (Nt.num (b.drop (b.length - (i + 1))) : Nat) := by
  have e := drop_cons h
  rw [show b.length - 1 - i + 1 = b.length - i by omega] at e
  rw [show b.length - (i + 1) = b.length - 1 - i by omega, e, num_cons]
  omega
theorem g_num (T : Txt K mg CC CT CQ CS CR) : Gf P w K mg base 1 "number_of_bytes" ["row"] spNum := by
  refine T.d_number_of_bytes.gf sc_number_of_bytes (fun vs H Q E h => ?_) (fun f cdv A outer s H vs Q E hr h => ?_)
  · obtain ⟨a, b, rfl, _⟩ := h
    rfl
  · obtain ⟨a, b, rfl, ha, q⟩ := h
    refine ⟨_, pss_cons (ps_set (i := 1) sc_number_of_bytes.nd rfl (Or.inl rfl) pe_int)
      (pss_cons (ps_for PassesOwn.never rfl (pi_reversed rfl T.b_reversed (pa_cons (pv 0) pa_nil)) (pg_name (i := 2) sc_number_of_bytes.nd rfl (Or.inl rfl)) (pss_one (ps_set (i := 1) sc_number_of_bytes.nd rfl (Or.inl rfl) (pe_op op_add (pe_op op_mul (pv 1) pe_int) (pv 2)))))
      (pss_one (ps_ret (pv 1)))), ?_⟩
    refine ⟨_, rfl, a, bv b, rfl, SqL.of ha, for_rev (K := K) (a := a) (xs := bv b) (fun i σ H' => ∃ v : Option V, σ = [some (.ref a), some (.int (Nt.num (b.drop (b.length - i)) : Nat)), v] ∧ H' = H)
      ⟨none, ?_, rfl⟩ (fun i σ H' _ ⟨_, _, e⟩ => by rw [e]; exact SqL.of ha) ?_ ?_⟩
    · rw [Nat.sub_zero, List.drop_length]
      rfl
    · rintro i y σ H' hi hy ⟨v, rfl, rfl⟩
      rw [bv_len] at hi hy
      obtain ⟨c, hc, rfl⟩ := bv_get hy
      refine ⟨_, rfl, _, _, rfl, rfl, .inr ⟨by decide, by decide⟩, _, rfl, _, _, rfl, rfl, ?_⟩
      refine ⟨some (.int c.toNat), ?_, rfl⟩
      show [some (V.ref a), some (V.int (_ * 256 + _)), _] = _
      rw [num_drop hi hc]
    · rintro σ H' ⟨v, rfl, rfl⟩
      refine ⟨_, rfl, ?_⟩
      rw [bv_len, Nat.sub_self, List.drop_zero]
      exact q
theorem g_half (T : Txt K mg CC CT CQ CS CR) : Gf P w K mg base 1 "number_of_halves" ["high", "low"] spHalf := by
  refine T.d_number_of_halves.gf sc_number_of_halves (fun vs H Q E h => ?_) (fun f cdv A outer s H vs Q E hr h => ?_)
  · obtain ⟨a, b, rfl, _⟩ := h
    rfl
  · obtain ⟨h, l, rfl, q⟩ := h
    refine ⟨_, pss_one (ps_ret (pe_op op_add (pe_op op_mul (pv 0) (pk T.c_TWO_TO_32)) (pv 1))), ?_⟩
    refine ⟨_, rfl, _, _, rfl, rfl, .inr ⟨by decide, by decide⟩, _, rfl, _, _, rfl, rfl, ?_⟩
    have e : (h : Int) * 4294967296 + (l : Int) = (NtDesk.serialOf h l : Nat) := by
      show _ = ((h * 4294967296 + l : Nat) : Int)
      omega
    show Q (.int ((h : Int) * 4294967296 + (l : Int))) H
    rw [e]
    exact q
theorem g_halves (T : Txt K mg CC CT CQ CS CR) : Gf P w K mg base 1 "halves" ["number"] spHalves := by
  refine T.d_halves.gf sc_halves (fun vs H Q E h => ?_) (fun f cdv A outer s H vs Q E hr h => ?_)
  · obtain ⟨a, rfl, _⟩ := h
    rfl
  · obtain ⟨n, rfl, q⟩ := h
    refine ⟨_, pss_one (ps_ret (pe_lst (pa_cons (pe_op op_fdivB (pv 0) (pk T.c_TWO_TO_32)) (pa_cons (pe_op op_mod (pv 0) (pk T.c_TWO_TO_32)) pa_nil)))), ?_⟩
    refine ⟨_, rfl, _, _, rfl, rfl, ⟨by decide, by decide +kernel⟩, _, rfl, _, _, rfl, rfl, (by show (0 : Int) < 4294967296; decide), (by show 2 ≤ sizeLine; decide), fun p hp => ?_⟩
    exact q p hp
end
end NT
set_option Elab.async false
set_option linter.all false
set_option maxRecDepth 100000
set_option maxHeartbeats 2000000
namespace NT
open PySem PySem.Spec PyProof.Rows L2
theorem hb_len (b : List UInt8) : (Nt.hashBytes b).length = 8 := le_len 8 _
theorem fits {n : Nat} (h : n ≤ 2000) : n ≤ sizeLine := Nat.le_trans h (by decide)
theorem bv_cavBytes {c : Nt.Caveat} (h : CavOk c) : bv (Nt.caveatBytes c) = [.int (c.kind : Int), .int (c.arg.length : Int)] ++ bv c.arg := by
  unfold Nt.caveatBytes
  rw [bv_app, bv_app, bv_le1 h.kind, bv_le1 (Nat.lt_of_le_of_lt h.len (by decide))]
  rfl
theorem cavBytes_len {c : Nt.Caveat} : (Nt.caveatBytes c).length = c.arg.length + 2 := by
  unfold Nt.caveatBytes
  rw [List.length_append, List.length_append, le_len, le_len]
  omega
/-! ### promises -/
def spCavRow (CC : Addr) : Sp := fun vs H Q _ => ∃ (p : Addr) (c : Nt.Caveat), vs = [.ref p] ∧ CavAt CC H p c ∧ CavOk c ∧ ∀ (H' : Hp) (q : Addr), Same H H' → RowAt H' q (Nt.caveatBytes c) → Q (.ref q) H'
def spFirst : Sp := fun vs H Q _ => ∃ (ka sa : Addr) (key : List UInt8) (r n : Nat), vs = [.ref ka, .int (r : Int), .ref sa] ∧ RowAt H ka key ∧ key.length ≤ 160 ∧ r < 256 ∧ RowAt H sa (Nt.le 8 n) ∧
  ∀ (H' : Hp) (q : Addr), Same H H' → RowAt H' q (Nt.sealed key r n) → Q (.ref q) H'
def spBehind (CC : Addr) : Sp := fun vs H Q _ => ∃ (sa p : Addr) (s : List UInt8) (c : Nt.Caveat), vs = [.ref sa, .ref p] ∧ RowAt H sa s ∧ s.length ≤ 160 ∧ CavAt CC H p c ∧ CavOk c ∧
  ∀ (H' : Hp) (q : Addr), Same H H' → RowAt H' q (Nt.sealOn s c) → Q (.ref q) H'
def spRight (CC CT : Addr) : Sp := fun vs H Q _ => ∃ (tp ka : Addr) (t : Nt.Token) (key : List UInt8), vs = [.ref tp, .ref ka] ∧ TokAt CC CT H tp t ∧ TokOk t ∧ RowAt H ka key ∧ key.length ≤ 160 ∧
  ∀ (H' : Hp) (q : Addr), Same H H' → RowAt H' q (Nt.rightSeal key t) → Q (.ref q) H'
def spTokRow (CC CT : Addr) : Sp := fun vs H Q _ => ∃ (tp : Addr) (t : Nt.Token), vs = [.ref tp] ∧ TokAt CC CT H tp t ∧ TokOk t ∧ ∀ (H' : Hp) (q : Addr), Same H H' → RowAt H' q (Nt.tokenBytes t) → Q (.ref q) H'
section
variable {P : Program} {w : World} {K : PySem.W.Frag} {mg : Str → Option Value} {base : Heap} {CC CT CQ CS CR : Addr}
theorem g_cavrow (T : Txt K mg CC CT CQ CS CR) : Gf P w K mg base 1 "caveat_row" ["caveat"] (spCavRow CC) := by
  refine T.d_caveat_row.gf sc_caveat_row (fun vs H Q E h => ?_) (fun f cdv A outer s H vs Q E hr h => ?_)
  · obtain ⟨p, c, rfl, _⟩ := h
    rfl
  · obtain ⟨p, c, rfl, ⟨dx, a, h1, h2⟩, ok, q⟩ := h
    refine ⟨_, pss_one (ps_ret (pe_op op_cat (pe_lst (pa_cons (pe_fld (pv 0) rfl) (pa_cons (plen T.b_len (pe_fld (pv 0) rfl)) pa_nil))) (pe_fld (pv 0) rfl))), ?_⟩
    refine ⟨_, rfl, p, CC, dx, _, _, rfl, h1, T.cl_Caveat, T.n_Caveat_kind, rfl, ?_⟩
    refine ⟨_, rfl, p, CC, dx, _, _, rfl, h1, T.cl_Caveat, T.n_Caveat_argument, rfl, a, _, rfl, .inl (SqL.of h2), (by show 2 ≤ sizeLine; decide), fun l hl => ?_⟩
    have s1 : Same H (upd H l (.lst [.int (c.kind : Int), .int ((bv c.arg).length : Int)])) := Same.new hl
    refine ⟨_, rfl, p, CC, dx, _, _, rfl, s1 _ _ h1, T.cl_Caveat, T.n_Caveat_argument, rfl, l, a, _, _, rfl, rfl, upd_same, s1 _ _ h2, ?_, fun q2 hq2 => ?_⟩
    · rw [bv_len]
      exact fits (by have := ok.len; simp only [List.length_cons, List.length_nil]; omega)
    · refine q _ q2 (s1.trans (Same.new hq2)) ?_
      show upd _ _ _ q2 = _
      rw [upd_same, bv_cavBytes ok, bv_len]
theorem g_first (T : Txt K mg CC CT CQ CS CR) : Gf P w K mg base 2 "first_seal" ["key", "root", "serial"] spFirst := by
  refine T.d_first_seal.gf sc_first_seal (fun vs H Q E h => ?_) (fun f cdv A outer s H vs Q E hr h => ?_)
  · obtain ⟨ka, sa, key, r, n, rfl, _⟩ := h
    rfl
  · obtain ⟨ka, sa, key, r, n, rfl, hk, hkl, hr256, hs, q⟩ := h
    refine ⟨_, pss_one (ps_ret (pf (g_eight T) hr (pa_cons (pf (g_sum T) hr (pa_cons (pe_op op_cat (pe_op op_cat (pe_op op_cat (pe_lst (pa_cons (pk T.c_FIRST_SEAL_MARK) pa_nil)) (pv 0)) (pe_lst (pa_cons (pv 1) pa_nil))) (pv 2)) pa_nil)) pa_nil))), ?_⟩
    refine ⟨(by show 1 ≤ sizeLine; decide), fun l1 n1 => ?_⟩
    have s1 : Same H (upd H l1 (.lst [.int 0])) := Same.new n1
    refine ⟨_, rfl, l1, ka, _, _, rfl, rfl, upd_same, s1 _ _ hk, fits (by simp only [List.length_cons, List.length_nil, bv_len]; omega), fun l2 n2 => ?_⟩
    have s2 := s1.trans (Same.new (o := .lst ([.int 0] ++ bv key)) n2)
    refine ⟨_, rfl, (by show 1 ≤ sizeLine; decide), fun l3 n3 => ?_⟩
    have s3 := s2.trans (Same.new (o := .lst [.int (r : Int)]) n3)
    refine ⟨l2, l3, _, _, rfl, rfl, (Same.new n3 _ _ upd_same), upd_same, fits (by simp only [List.length_cons, List.length_nil, List.length_append, bv_len]; omega), fun l4 n4 => ?_⟩
    have s4 := s3.trans (Same.new (o := .lst ([.int 0] ++ bv key ++ [.int (r : Int)])) n4)
    refine ⟨_, rfl, l4, sa, _, _, rfl, rfl, upd_same, s4 _ _ hs, fits (by simp only [List.length_cons, List.length_nil, List.length_append, bv_len, le_len]; omega), fun l5 n5 => ?_⟩
    have s5 := s4.trans (Same.new (o := .lst ([.int 0] ++ bv key ++ [.int (r : Int)] ++ bv (Nt.le 8 n))) n5)
    refine ⟨l5, 0 :: (key ++ (Nt.le 1 r ++ Nt.le 8 n)), rfl, ?_, _, rfl, fun H' p sm hp => q H' p (s5.trans sm) hp⟩
    show upd _ _ _ l5 = _
    rw [upd_same]
    show _ = some (HO.lst (V.int 0 :: bv (key ++ (Nt.le 1 r ++ Nt.le 8 n))))
    rw [bv_app, bv_app, bv_le1 hr256]
    simp
theorem g_behind (T : Txt K mg CC CT CQ CS CR) : Gf P w K mg base 2 "seal_behind" ["seal", "caveat"] (spBehind CC) := by
  refine T.d_seal_behind.gf sc_seal_behind (fun vs H Q E h => ?_) (fun f cdv A outer s H vs Q E hr h => ?_)
  · obtain ⟨sa, p, s, c, rfl, _⟩ := h
    rfl
  · obtain ⟨sa, p, sb, c, rfl, hs, hsl, hc, ok, q⟩ := h
    refine ⟨_, pss_one (ps_ret (pf (g_eight T) hr (pa_cons (pf (g_sum T) hr (pa_cons (pe_op op_cat (pe_op op_cat (pe_lst (pa_cons (pk T.c_CAVEAT_SEAL_MARK) pa_nil)) (pv 0)) (pf (g_cavrow T) hr (pa_cons (pv 1) pa_nil))) pa_nil)) pa_nil))), ?_⟩
    refine ⟨(by show 1 ≤ sizeLine; decide), fun l1 n1 => ?_⟩
    have s1 : Same H (upd H l1 (.lst [.int 1])) := Same.new n1
    refine ⟨_, rfl, l1, sa, _, _, rfl, rfl, upd_same, s1 _ _ hs, fits (by simp only [List.length_cons, List.length_nil, bv_len]; omega), fun l2 n2 => ?_⟩
    have s2 := s1.trans (Same.new (o := .lst ([.int 1] ++ bv sb)) n2)
    refine ⟨_, rfl, p, c, rfl, hc.same s2, ok, fun H3 l3 s3 h3 => ?_⟩
    refine ⟨l2, l3, _, _, rfl, rfl, s3 _ _ upd_same, h3, fits (by have := ok.len; simp only [List.length_cons, List.length_nil, List.length_append, bv_len, cavBytes_len]; omega), fun l5 n5 => ?_⟩
    have s5 := (s2.trans s3).trans (Same.new (o := .lst ([.int 1] ++ bv sb ++ bv (Nt.caveatBytes c))) n5)
    refine ⟨l5, 1 :: (sb ++ Nt.caveatBytes c), rfl, ?_, _, rfl, fun H' p sm hp => q H' p (s5.trans sm) hp⟩
    show upd _ _ _ l5 = _
    rw [upd_same]
    show _ = some (HO.lst (V.int 1 :: bv (sb ++ Nt.caveatBytes c)))
    rw [bv_app]
    simp
theorem seal_len (key : List UInt8) (r n : Nat) (cs : List Nt.Caveat) : (cs.foldl Nt.sealOn (Nt.sealed key r n)).length = 8 := by
  rcases List.eq_nil_or_concat cs with e | ⟨l, c, e⟩
  · subst e
    exact hb_len _
  · subst e
    rw [List.concat_eq_append, List.foldl_append]
    exact hb_len _
theorem g_right (T : Txt K mg CC CT CQ CS CR) : Gf P w K mg base 3 "right_seal" ["token", "key"] (spRight CC CT) := by
  refine T.d_right_seal.gf sc_right_seal (fun vs H Q E h => ?_) (fun f cdv A outer s H vs Q E hr h => ?_)
  · obtain ⟨tp, ka, t, key, rfl, _⟩ := h
    rfl
  · obtain ⟨tp, ka, t, key, rfl, ht, ok, hk, hkl, q⟩ := h
    obtain ⟨dx, sa, ca, la, ps, h1, h2, h3, h4, h5⟩ := ht.ex
    refine ⟨_, pss_cons (ps_set (i := 2) sc_right_seal.nd rfl (Or.inl rfl) (pf (g_first T) hr (pa_cons (pv 1) (pa_cons (pe_fld (pv 0) rfl) (pa_cons (pe_fld (pv 0) rfl) pa_nil)))))
      (pss_cons (ps_for PassesOwn.never rfl (pi_list (pe_fld (pv 0) rfl)) (pg_name (i := 3) sc_right_seal.nd rfl (Or.inl rfl)) (pss_one (ps_set (i := 2) sc_right_seal.nd rfl (Or.inl rfl) (pf (g_behind T) hr (pa_cons (pv 2) (pa_cons (pv 3) pa_nil))))))
      (pss_one (ps_ret (pv 2)))), ?_⟩
    refine ⟨_, rfl, _, rfl, tp, CT, dx, _, _, rfl, h1, T.cl_Token, T.n_Token_root, rfl, _, rfl, tp, CT, dx, _, _, rfl, h1, T.cl_Token, T.n_Token_serial, rfl, ?_⟩
    refine ⟨ka, sa, key, t.root, t.serial, rfl, hk, hkl, ok.root, h2, fun H1 q1 s1 r1 => ?_⟩
    refine ⟨_, rfl, tp, CT, dx, _, _, rfl, s1 _ _ h1, T.cl_Token, T.n_Token_caveats, rfl, ca, rfl, ⟨_, SqL.of (s1 _ _ h3)⟩, for_list (K := K) (a := ca) (xs := ps.map V.ref) (fun i σ H' => ∃ (v : Option V) (q2 : Addr), σ = [some (.ref tp), some (.ref ka), some (.ref q2), v] ∧ Same H H' ∧ RowAt H' q2 ((t.caveats.take i).foldl Nt.sealOn (Nt.sealed key t.root t.serial)))
      ⟨none, q1, rfl, s1, r1⟩ (fun i σ H' _ ⟨_, _, _, s2, _⟩ => SqL.of (s2 _ _ h3)) ?_ ?_⟩
    · rintro i y σ H' hi ⟨v, q2, rfl, s2, r2⟩
      obtain ⟨p, c, rfl, hc, hp⟩ := (h4.same s2).get hi
      refine ⟨_, rfl, _, rfl, q2, p, _, c, rfl, r2, by rw [seal_len]; decide, hp, ok.cavs c (List.mem_of_getElem? hc), fun H3 q3 s3 r3 => ?_⟩
      refine ⟨some (.ref p), q3, rfl, s2.trans s3, ?_⟩
      rw [take_snoc hc, List.foldl_append]
      exact r3
    · rintro σ H' ⟨v, q2, rfl, s2, r2⟩
      refine ⟨_, rfl, q H' q2 s2 ?_⟩
      rw [List.length_map, h4.1, List.take_length] at r2
      exact r2
theorem bv_tokBytes {t : Nt.Token} (ok : TokOk t) : bv (Nt.tokenBytes t) = [V.int (t.root : Int)] ++ bv (Nt.le 8 t.serial) ++ [.int (t.caveats.length : Int)] ++ bv (t.caveats.flatMap Nt.caveatBytes) ++ bv t.seal_ := by
  unfold Nt.tokenBytes
  rw [bv_app, bv_app, bv_app, bv_app, bv_le1 ok.root, bv_le1 (Nat.lt_of_le_of_lt ok.few (by decide))]
  simp only [List.append_assoc]
theorem cavs_len : ∀ {cs : List Nt.Caveat}, (∀ c ∈ cs, CavOk c) → (cs.flatMap Nt.caveatBytes).length ≤ 18 * cs.length
  | [], _ => by simp
  | c :: r, h => by
    have h1 := (h c (List.mem_cons.mpr (.inl rfl))).len
    have h2 := cavs_len (cs := r) fun d hd => h d (List.mem_cons.mpr (.inr hd))
    rw [List.flatMap_cons, List.length_append, cavBytes_len, List.length_cons]
    omega
theorem g_tokrow (T : Txt K mg CC CT CQ CS CR) : Gf P w K mg base 2 "token_row" ["token"] (spTokRow CC CT) := by
  refine T.d_token_row.gf sc_token_row (fun vs H Q E h => ?_) (fun f cdv A outer s H vs Q E hr h => ?_)
  · obtain ⟨tp, t, rfl, _⟩ := h
    rfl
  · obtain ⟨tp, t, rfl, ht, ok, q⟩ := h
    obtain ⟨dx, sa, ca, la, ps, h1, h2, h3, h4, h5⟩ := ht.ex
    refine ⟨_, pss_cons (ps_set (i := 1) sc_token_row.nd rfl (Or.inl rfl) (pe_op op_cat (pe_op op_cat (pe_lst (pa_cons (pe_fld (pv 0) rfl) pa_nil)) (pe_fld (pv 0) rfl)) (pe_lst (pa_cons (plen T.b_len (pe_fld (pv 0) rfl)) pa_nil))))
      (pss_cons (ps_for PassesOwn.never rfl (pi_list (pe_fld (pv 0) rfl)) (pg_name (i := 2) sc_token_row.nd rfl (Or.inl rfl)) (pss_one (ps_expr (pe_bm PySem.F.plainAttrs_list PySem.F.slot_list_extend PySem.F.type_list_extend mt_extend (pv 1) (pa_cons (pf (g_cavrow T) hr (pa_cons (pv 2) pa_nil)) pa_nil)))))
      (pss_one (ps_ret (pe_op op_cat (pv 1) (pe_fld (pv 0) rfl))))), ?_⟩
    have sl : ∀ c ∈ t.caveats, c.arg.length ≤ 16 := fun c hc => (ok.cavs c hc).len
    refine ⟨_, rfl, tp, CT, dx, _, _, rfl, h1, T.cl_Token, T.n_Token_root, rfl, (by show 1 ≤ sizeLine; decide), fun l1 n1 => ?_⟩
    have s1 : Same H (upd H l1 (.lst [.int (t.root : Int)])) := Same.new n1
    refine ⟨_, rfl, tp, CT, dx, _, _, rfl, s1 _ _ h1, T.cl_Token, T.n_Token_serial, rfl, l1, sa, _, _, rfl, rfl, upd_same, s1 _ _ h2, fits (by simp only [List.length_cons, List.length_nil, bv_len, le_len]; omega), fun l2 n2 => ?_⟩
    have s2 := s1.trans (Same.new (o := .lst ([.int (t.root : Int)] ++ bv (Nt.le 8 t.serial))) n2)
    refine ⟨_, rfl, tp, CT, dx, _, _, rfl, s2 _ _ h1, T.cl_Token, T.n_Token_caveats, rfl, ca, _, rfl, .inl (SqL.of (s2 _ _ h3)), (by show 1 ≤ sizeLine; decide), fun l3 n3 => ?_⟩
    have s3 := s2.trans (Same.new (o := .lst [.int ((ps.map V.ref).length : Int)]) n3)
    refine ⟨l2, l3, _, _, rfl, rfl, (Same.new n3 _ _ upd_same), upd_same, fits (by simp only [List.length_cons, List.length_nil, List.length_append, bv_len, le_len]; omega), fun l4 n4 => ?_⟩
    have s4 := s3.trans (Same.new (o := .lst ([.int (t.root : Int)] ++ bv (Nt.le 8 t.serial) ++ [.int ((ps.map V.ref).length : Int)])) n4)
    have f4 : H l4 = none := s3.free n4
    have ck : ∀ i, ∀ c ∈ t.caveats.take i, CavOk c := fun i c hc => ok.cavs c (List.mem_of_mem_take hc)
    refine ⟨_, rfl, tp, CT, dx, _, _, rfl, s4 _ _ h1, T.cl_Token, T.n_Token_caveats, rfl, ca, rfl, ⟨_, SqL.of (s4 _ _ h3)⟩, for_list (K := K) (a := ca) (xs := ps.map V.ref) (fun i σ H' => ∃ (v : Option V), σ = [some (.ref tp), some (.ref l4), v] ∧ Same H H' ∧ H' l4 = some (.lst ([.int (t.root : Int)] ++ bv (Nt.le 8 t.serial) ++ [.int (t.caveats.length : Int)] ++ bv ((t.caveats.take i).flatMap Nt.caveatBytes))))
      ⟨none, rfl, s4, ?_⟩ (fun i σ H' _ ⟨_, _, s2, _⟩ => SqL.of (s2 _ _ h3)) ?_ ?_⟩
    · rw [upd_same, List.length_map, h4.1]
      simp [bv]
    · rintro i y σ H' hi ⟨v, rfl, s5, r5⟩
      obtain ⟨p, c, rfl, hc, hp⟩ := (h4.same s5).get hi
      refine ⟨_, rfl, .inl ⟨rfl, _, SqL.of r5⟩, _, rfl, p, c, rfl, hp, ok.cavs c (List.mem_of_getElem? hc), fun H6 q6 s6 r6 => ?_⟩
      refine ⟨l4, q6, _, _, rfl, rfl, s6 _ _ r5, r6, ?_, ?_⟩
      · have a1 := cavs_len (ck i)
        have a2 := (ok.cavs c (List.mem_of_getElem? hc)).len
        have a3 := ok.few
        have a4 : (t.caveats.take i).length ≤ t.caveats.length := List.length_take_le' _ _
        exact fits (by simp only [List.length_cons, List.length_nil, List.length_append, bv_len, le_len, cavBytes_len]; omega)
      · refine ⟨some (.ref p), rfl, Same.over (s5.trans s6) f4, ?_⟩
        rw [upd_same, take_snoc hc, List.flatMap_append, bv_app]
        simp
    · rintro σ H' ⟨v, rfl, s5, r5⟩
      rw [List.length_map, h4.1, List.take_length] at r5
      refine ⟨_, rfl, _, rfl, tp, CT, dx, _, _, rfl, s5 _ _ h1, T.cl_Token, T.n_Token_seal, rfl, l4, la, _, _, rfl, rfl, r5, s5 _ _ h5, ?_, fun l6 n6 => ?_⟩
      · have a1 := cavs_len ok.cavs
        have a3 := ok.few
        exact fits (by simp only [List.length_cons, List.length_nil, List.length_append, bv_len, le_len, ok.seal_]; omega)
      · refine q _ l6 (s5.trans (Same.new n6)) ?_
        show upd _ _ _ l6 = _
        rw [upd_same, bv_tokBytes ok]
end
end NT
set_option Elab.async false
set_option linter.all false
set_option maxRecDepth 100000
set_option maxHeartbeats 2000000
namespace NT
open PySem PySem.Spec PyProof.Rows L2
/-! ### cuts -/
theorem cut_nat (xs : List V) (i j : Nat) : cutV xs (some (i : Int)) (some (j : Int)) = (xs.drop i).take (j - i) := by
  unfold cutV
  rw [HT.sIx_nat, HT.sIx_nat]
  apply List.ext_getElem?
  intro k
  rw [List.getElem?_take, List.getElem?_take, List.getElem?_drop, List.getElem?_drop]
  by_cases hi : i ≤ xs.length
  · rw [Nat.min_eq_left hi]
    by_cases h1 : k < j - i
    · rw [if_pos h1]
      by_cases h2 : k < min j xs.length - i
      · rw [if_pos h2]
      · rw [if_neg h2, List.getElem?_eq_none (by omega)]
    · rw [if_neg h1, if_neg (by omega)]
  · rw [List.getElem?_eq_none (by omega), List.getElem?_eq_none (by omega)]
    simp
theorem cut_from (xs : List V) (i : Nat) : cutV xs (some (i : Int)) none = xs.drop i := by
  unfold cutV
  rw [HT.sIx_nat, HT.sIx_none]
  by_cases hi : i ≤ xs.length
  · rw [Nat.min_eq_left hi, List.take_of_length_le (by rw [List.length_drop]; omega)]
  · rw [Nat.min_eq_right (by omega), Nat.sub_self, List.take_zero, List.drop_of_length_le (by omega)]
theorem cut_to (xs : List V) (j : Nat) : cutV xs none (some (j : Int)) = xs.take j := by
  unfold cutV
  rw [HT.sIx_nat, HT.sIx_none, List.drop_zero, Nat.sub_zero]
  by_cases hi : j ≤ xs.length
  · rw [Nat.min_eq_left hi]
  · rw [Nat.min_eq_right (by omega), List.take_length, List.take_of_length_le (by omega)]
theorem bv_drop (b : List UInt8) (i : Nat) : (bv b).drop i = bv (b.drop i) := by
  unfold bv
  rw [List.map_drop]
theorem bv_take (b : List UInt8) (i : Nat) : (bv b).take i = bv (b.take i) := by
  unfold bv
  rw [List.map_take]
/-- all but one address -/
def rm (H : Hp) (l : Addr) : Hp := fun b => if b = l then none else H b
theorem rm_at {H : Hp} {l b : Addr} (h : b ≠ l) : rm H l b = H b := by
  unfold rm
  rw [if_neg h]
theorem rm_some {H : Hp} {l b : Addr} {o : HO} (h : rm H l b = some o) : b ≠ l ∧ H b = some o := by
  by_cases e : b = l
  · unfold rm at h
    rw [if_pos e] at h
    cases h
  · rw [rm_at e] at h
    exact ⟨e, h⟩
theorem rm_same {H H' : Hp} {l : Addr} (s : Same H H') : Same (rm H l) (rm H' l) := fun b o e => by
  obtain ⟨n, e⟩ := rm_some e
  rw [rm_at n]
  exact s _ _ e
theorem rm_le {H : Hp} {l : Addr} : Same (rm H l) H := fun b o e => (rm_some e).2
theorem rm_upd {H : Hp} {l : Addr} {o : HO} : rm (upd H l o) l = rm H l := by
  funext b
  unfold rm upd
  by_cases e : b = l
  · rw [if_pos e, if_pos e]
  · rw [if_neg e, if_neg e, if_neg e]
/-! ### one caveat read -/
def rc1 : List UInt8 → Option (Nt.Caveat × List UInt8)
  | k :: l :: r => if 16 < l.toNat ∨ r.length < l.toNat then none else some (⟨k.toNat, r.take l.toNat⟩, r.drop l.toNat)
  | _ => none
theorem rc1_cons (k l : UInt8) (r : List UInt8) : rc1 (k :: l :: r) = if 16 < l.toNat ∨ r.length < l.toNat then none else some (⟨k.toNat, r.take l.toNat⟩, r.drop l.toNat) := rfl
theorem rcs_cons (n : Nat) (k l : UInt8) (r : List UInt8) : Nt.readCaveats (n + 1) (k :: l :: r) = if 16 < l.toNat ∨ r.length < l.toNat then none else (Nt.readCaveats n (r.drop l.toNat)).map fun y => (⟨k.toNat, r.take l.toNat⟩ :: y.1, y.2) := rfl
theorem rc_succ (n : Nat) (b : List UInt8) : Nt.readCaveats (n + 1) b = match rc1 b with
    | none => none
    | some x => (Nt.readCaveats n x.2).map fun y => (x.1 :: y.1, y.2) := by
  match b with
  | [] => rfl
  | [_] => rfl
  | k :: l :: r =>
    rw [rc1_cons, rcs_cons]
    by_cases h : 16 < l.toNat ∨ r.length < l.toNat
    · rw [if_pos h, if_pos h]
    · rw [if_neg h, if_neg h]
theorem rc1_short {b : List UInt8} (h : b.length < 2) : rc1 b = none := by
  match b, h with
  | [], _ => rfl
  | [_], _ => rfl
  | _ :: _ :: _, h => simp at h; omega
theorem rc1_some {b : List UInt8} {pl : Nat} {c : Nt.Caveat} {r : List UInt8} (h : rc1 (b.drop pl) = some (c, r)) : r = b.drop (pl + 2 + c.arg.length) ∧ CavOk c ∧ pl + 2 + c.arg.length ≤ b.length := by
  match e : b.drop pl, h with
  | k :: l :: r', h =>
    rw [rc1_cons] at h
    have hl : (b.drop pl).length = r'.length + 2 := by rw [e]; rfl
    rw [List.length_drop] at hl
    have e2 : b.drop (pl + 2) = r' := by rw [← List.drop_drop, e]; rfl
    by_cases hc : 16 < l.toNat ∨ r'.length < l.toNat
    · rw [if_pos hc] at h
      cases h
    · rw [if_neg hc] at h
      cases h
      have hk : k.toNat < 256 := k.toNat_lt
      have hlen : (r'.take l.toNat).length = l.toNat := by rw [List.length_take]; omega
      refine ⟨?_, ⟨hk, ?_⟩, ?_⟩
      · show r'.drop l.toNat = b.drop (pl + 2 + (r'.take l.toNat).length)
        rw [hlen, ← List.drop_drop, e2]
      · show (r'.take l.toNat).length ≤ 16
        omega
      · show pl + 2 + (r'.take l.toNat).length ≤ b.length
        omega
theorem rcs_ok : ∀ (n : Nat) (b : List UInt8) (cs : List Nt.Caveat) (r : List UInt8), Nt.readCaveats n b = some (cs, r) → cs.length = n ∧ (∀ c ∈ cs, CavOk c) ∧ (cs.flatMap Nt.caveatBytes).length + r.length = b.length
  | 0, b, cs, r, h => by
    have h : some (([] : List Nt.Caveat), b) = some (cs, r) := h
    cases h
    exact ⟨rfl, fun c hc => by simp at hc, by simp⟩
  | n + 1, b, cs, r, h => by
    rw [rc_succ] at h
    cases e : rc1 b with
    | none => rw [e] at h; cases h
    | some x =>
      obtain ⟨c, r1⟩ := x
      rw [e] at h
      have h : (Nt.readCaveats n r1).map (fun y => (c :: y.1, y.2)) = some (cs, r) := h
      cases e2 : Nt.readCaveats n r1 with
      | none => rw [e2] at h; cases h
      | some y =>
        obtain ⟨ds, r2⟩ := y
        rw [e2] at h
        cases h
        obtain ⟨i1, i2, i3⟩ := rcs_ok n r1 ds r2 e2
        obtain ⟨j1, j2, j3⟩ := rc1_some (pl := 0) (b := b) (by rw [List.drop_zero]; exact e)
        refine ⟨by rw [List.length_cons, i1], fun d hd => ?_, ?_⟩
        · rcases List.mem_cons.mp hd with z | z
          · rw [z]
            exact j2
          · exact i2 d z
        · rw [List.flatMap_cons, List.length_append, cavBytes_len]
          have e3 := congrArg List.length j1
          rw [List.length_drop] at e3
          have i3 : (ds.flatMap Nt.caveatBytes).length + r2.length = r1.length := i3
          show c.arg.length + 2 + (ds.flatMap Nt.caveatBytes).length + r2.length = b.length
          omega
theorem read_ok {b : List UInt8} {t : Nt.Token} (h : Nt.readToken b = some t) : TokOk t ∧ t.caveats.length ≤ 6 ∧ (t.caveats.flatMap Nt.caveatBytes).length + 18 = b.length := by
  unfold Nt.readToken at h
  by_cases h1 : b.length < 10
  · rw [if_pos h1] at h
    cases h
  · rw [if_neg h1] at h
    dsimp only at h
    by_cases h2 : Nt.CAVEATS < (b.getD 9 0).toNat
    · rw [if_pos h2] at h
      cases h
    · rw [if_neg h2] at h
      have h2' : (b.getD 9 0).toNat ≤ 6 := Nat.le_of_not_lt h2
      cases e : Nt.readCaveats (b.getD 9 0).toNat (b.drop 10) with
      | none => rw [e] at h; cases h
      | some x =>
        obtain ⟨cs, r⟩ := x
        rw [e] at h
        dsimp only at h
        by_cases h3 : r.length = 8
        · rw [if_pos h3] at h
          cases h
          obtain ⟨i1, i2, i3⟩ := rcs_ok _ _ _ _ e
          rw [List.length_drop] at i3
          have hs : ((b.drop 1).take 8).length = 8 := by rw [List.length_take, List.length_drop]; omega
          have hn := num_lt ((b.drop 1).take 8)
          rw [hs] at hn
          refine ⟨⟨(b.getD 0 0).toNat_lt, hn, ?_, i2, h3⟩, ?_, ?_⟩
          · show cs.length ≤ 7
            omega
          · show cs.length ≤ 6
            omega
          · show (cs.flatMap Nt.caveatBytes).length + 18 = b.length
            omega
        · rw [if_neg h3] at h
          cases h
def spReadCav (CC : Addr) : Sp := fun vs H Q _ => ∃ (a : Addr) (b : List UInt8) (pl : Nat), vs = [.ref a, .int (pl : Int)] ∧ RowAt H a b ∧ (rc1 (b.drop pl) = none → Q .non H) ∧
  ∀ c r, rc1 (b.drop pl) = some (c, r) → ∀ (H' : Hp) (p dx aa : Addr), Same H H' → H' p = some (.ins CC dx (cf (.int (c.kind : Int)) (.ref aa))) → RowAt H' aa c.arg → H p = none → H aa = none → Q (.ref p) H'
def spRead (CC CT : Addr) : Sp := fun vs H Q _ => ∃ (a : Addr) (b : List UInt8), vs = [.ref a] ∧ RowAt H a b ∧ (Nt.readToken b = none → ∀ H', Same H H' → Q .non H') ∧
  ∀ t, Nt.readToken b = some t → ∀ (H' : Hp) (p : Addr), Same H H' → TokAt CC CT H' p t → Q (.ref p) H'
section
variable {P : Program} {w : World} {K : PySem.W.Frag} {mg : Str → Option Value} {base : Heap} {CC CT CQ CS CR : Addr}
theorem g_readcav (T : Txt K mg CC CT CQ CS CR) : Gf P w K mg base 3 "read_caveat" ["row", "place"] (spReadCav CC) := by
  refine T.d_read_caveat.gf sc_read_caveat (fun vs H Q E h => ?_) (fun f cdv A outer s H vs Q E hr h => ?_)
  · obtain ⟨a, b, pl, rfl, _⟩ := h
    rfl
  · obtain ⟨a, b, pl, rfl, ha, q1, q2⟩ := h
    refine ⟨_, pss_cons (ps_set (i := 2) sc_read_caveat.nd rfl (Or.inl rfl) (pe_op op_add (pv 1) (pk T.c_CAVEAT_HEAD)))
      (pss_cons (ps_if (pt_cmpR op_gt (pv 2) (plen T.b_len (pv 0)) (nomark _)) (pss_one (ps_ret pe_non)) pss_nil)
      (pss_cons (ps_set (i := 3) sc_read_caveat.nd rfl (Or.inl rfl) (pe_ix ix_list (pv 0) (pe_op op_add (pv 1) pe_int) (fun _ _ => rfl)))
      (pss_cons (ps_if (pw_or (pt_cmpR op_gt (pv 3) (pk T.c_LONGEST_ARGUMENT) (nomark _)) (pw_or1 (pt_cmpR op_gt (pe_op op_add (pv 2) (pv 3)) (plen T.b_len (pv 0)) (nomark _)))).pt (pss_one (ps_ret pe_non)) pss_nil)
      (pss_one (ps_ret (pn (g_Caveat T) hr T.mg_Caveat (pa_cons (pe_ix ix_list (pv 0) (pv 1) (fun _ _ => rfl)) (pa_cons (pe_slice sl_list (pv 0) (po_some (pv 2)) (po_some (pe_op op_add (pv 2) (pv 3)))) pa_nil)))))))), ?_⟩
    refine ⟨_, rfl, _, _, rfl, rfl, _, rfl, _, rfl, a, _, rfl, .inl (SqL.of ha), _, _, rfl, rfl, _, rfl, ite2 (fun h => ?_) (fun h => ?_)⟩
    · have h := of_decide_eq_true h
      rw [bv_len] at h
      exact q1 (rc1_short (by rw [List.length_drop]; omega))
    · have h : ¬ ((bv b).length : Int) < (pl : Int) + 2 := fun z => h (decide_eq_true z)
      rw [bv_len] at h
      obtain ⟨k, hk⟩ : ∃ k, b[pl]? = some k := ⟨_, List.getElem?_eq_getElem (by omega)⟩
      obtain ⟨l, hl⟩ : ∃ l, b[pl + 1]? = some l := ⟨_, List.getElem?_eq_getElem (by omega)⟩
      have ed : b.drop pl = k :: l :: b.drop (pl + 2) := by rw [drop_cons hk, drop_cons hl]
      refine ⟨_, rfl, _, rfl, _, _, rfl, rfl, a, _, _, _, rfl, rfl, SqL.of ha, at_of (j := pl + 1) (by omega) (bv_at hl), ?_⟩
      have fail : (16 < l.toNat ∨ (b.drop (pl + 2)).length < l.toNat) → rc1 (b.drop pl) = none := fun z => by
        rw [ed, rc1_cons, if_pos z]
      refine ⟨_, rfl, _, _, rfl, rfl, _, rfl, ite2 (fun h1 => ?_) (fun h1 => ?_)⟩
      · have h1 := of_decide_eq_true h1
        refine iteT (q1 (fail (.inl (by omega))))
      · have h1 : ¬ (16 : Int) < (l.toNat : Int) := fun z => h1 (decide_eq_true z)
        refine ⟨_, rfl, _, rfl, _, _, rfl, rfl, _, rfl, a, _, rfl, .inl (SqL.of ha), _, _, rfl, rfl, _, rfl, ite2 (fun h2 => ?_) (fun h2 => ?_)⟩
        · have h2 := of_decide_eq_true h2
          rw [bv_len] at h2
          exact q1 (fail (.inr (by rw [List.length_drop]; omega)))
        · have h2 : ¬ ((bv b).length : Int) < (pl : Int) + 2 + (l.toNat : Int) := fun z => h2 (decide_eq_true z)
          rw [bv_len] at h2
          have hs : rc1 (b.drop pl) = some (⟨k.toNat, (b.drop (pl + 2)).take l.toNat⟩, (b.drop (pl + 2)).drop l.toNat) := by
            rw [ed, rc1_cons, if_neg (by rw [List.length_drop]; omega)]
          refine ⟨_, rfl, _, rfl, a, _, _, _, rfl, rfl, SqL.of ha, at_of (j := pl) rfl (bv_at hk), _, rfl, _, rfl, _, rfl, _, rfl, _, rfl, _, _, rfl, rfl, _, rfl, a, _, rfl, SqL.of ha, fun p hp => ?_⟩
          intro x dx nx nd ne
          have s1 := Same.new (o := .lst (cutV (bv b) (some ((pl : Int) + 2)) (some ((pl : Int) + 2 + (l.toNat : Int))))) hp
          refine ⟨x, dx, _, _, rfl, upd_same, rfl, ?_⟩
          rw [upd_upd]
          refine q2 _ _ hs _ x dx p (s1.trans (Same.inst nx nd)) upd_same ?_ (s1.free nx) hp
          show upd _ _ _ p = _
          have npx : p ≠ x := ne_of_none (upd_same) nx
          have npd : p ≠ dx := ne_of_none (upd_same) nd
          rw [upd_ne npx, upd_ne npd, upd_same]
          have e1 : (pl : Int) + 2 = ((pl + 2 : Nat) : Int) := by omega
          have e2 : (pl : Int) + 2 + (l.toNat : Int) = ((pl + 2 + l.toNat : Nat) : Int) := by omega
          rw [e2, e1, cut_nat, bv_drop, bv_take, show pl + 2 + l.toNat - (pl + 2) = l.toNat by omega]
end
end NT
set_option Elab.async false
set_option linter.all false
set_option maxRecDepth 100000
set_option maxHeartbeats 2000000
namespace NT
open PySem PySem.Spec PyProof.Rows L2
theorem read_short {b : List UInt8} (h : b.length < 10) : Nt.readToken b = none := by
  unfold Nt.readToken
  rw [if_pos h]
theorem read_many {b : List UInt8} {k : UInt8} (h : b[9]? = some k) (h2 : 6 < k.toNat) : Nt.readToken b = none := by
  have e : b.getD 9 0 = k := by rw [List.getD_eq_getElem?_getD, h]; rfl
  unfold Nt.readToken
  by_cases h1 : b.length < 10
  · rw [if_pos h1]
  · rw [if_neg h1]
    dsimp only
    rw [e, if_pos (show Nt.CAVEATS < k.toNat from h2)]
theorem read_cavs {b : List UInt8} {k : UInt8} (h : b[9]? = some k) (h2 : ¬ 6 < k.toNat) : Nt.readToken b = match Nt.readCaveats k.toNat (b.drop 10) with
    | some x => if x.2.length = 8 then some ⟨(b.getD 0 0).toNat, Nt.num ((b.drop 1).take 8), x.1, x.2⟩ else none
    | none => none := by
  have e : b.getD 9 0 = k := by rw [List.getD_eq_getElem?_getD, h]; rfl
  have hl : 9 < b.length := (List.getElem?_eq_some_iff.mp h).1
  unfold Nt.readToken
  rw [if_neg (by omega)]
  dsimp only
  rw [e, if_neg (show ¬ Nt.CAVEATS < k.toNat from h2)]
  rfl
section
variable {P : Program} {w : World} {K : PySem.W.Frag} {mg : Str → Option Value} {base : Heap} {CC CT CQ CS CR : Addr}
theorem g_read (T : Txt K mg CC CT CQ CS CR) : Gf P w K mg base 4 "read_token" ["row"] (spRead CC CT) := by
  refine T.d_read_token.gf sc_read_token (fun vs H Q E h => ?_) (fun f cdv A outer s H vs Q E hr h => ?_)
  · obtain ⟨a, b, rfl, _⟩ := h
    rfl
  · obtain ⟨a, b, rfl, ha, q1, q2⟩ := h
    refine ⟨_, pss_cons (ps_if (pw_or (pt_cmpR op_lt (plen T.b_len (pv 0)) (pk T.c_CAVEATS_PLACE) (nomark _)) (pw_or1 (pt_cmpR op_gt (pe_ix ix_list (pv 0) (pk T.c_COUNT_PLACE) (fun _ _ => rfl)) (pk T.c_MOST_CAVEATS) (nomark _)))).pt (pss_one (ps_ret pe_non)) pss_nil)
      (pss_cons (ps_set (i := 1) sc_read_token.nd rfl (Or.inl rfl) (pe_lst pa_nil))
      (pss_cons (ps_set (i := 2) sc_read_token.nd rfl (Or.inl rfl) (pk T.c_CAVEATS_PLACE))
      (pss_cons (ps_while PassesOwn.never (pt_cmpR op_lt (plen T.b_len (pv 1)) (pe_ix ix_list (pv 0) (pk T.c_COUNT_PLACE) (fun _ _ => rfl)) (nomark _))
        (pss_cons (ps_set (i := 3) sc_read_token.nd rfl (Or.inl rfl) (pf (g_readcav T) hr (pa_cons (pv 0) (pa_cons (pv 2) pa_nil))))
        (pss_cons (ps_if (pt_cmp (pc_isN (pv 3))) (pss_one (ps_ret pe_non)) pss_nil)
        (pss_cons (ps_expr (pe_bm PySem.F.plainAttrs_list PySem.F.slot_list_append PySem.F.type_list_append mt_append (pv 1) (pa_cons (pv 3) pa_nil)))
        (pss_one (ps_aug (i := 2) sc_read_token.nd rfl (Or.inl rfl) (pe_op op_add (pk T.c_CAVEAT_HEAD) (plen T.b_len (pe_fld (pv 3) rfl))) ip_add))))))
      (pss_cons (ps_if (pt_cmpR op_ne (pe_op op_sub (plen T.b_len (pv 0)) (pv 2)) (pk T.c_SEAL_LENGTH) (nomark _)) (pss_one (ps_ret pe_non)) pss_nil)
      (pss_one (ps_ret (pn (g_Token T) hr T.mg_Token (pa_cons (pe_ix ix_list (pv 0) pe_int (fun _ _ => rfl)) (pa_cons (pe_slice sl_list (pv 0) (po_some (pk T.c_SERIAL_PLACE)) (po_some (pk T.c_COUNT_PLACE))) (pa_cons (pv 1) (pa_cons (pe_slice sl_list (pv 0) (po_some (pv 2)) po_none) pa_nil))))))))))), ?_⟩
    refine ⟨_, rfl, a, _, rfl, .inl (SqL.of ha), _, _, rfl, rfl, _, rfl, ite2 (fun h => ?_) (fun h => ?_)⟩
    · have h := of_decide_eq_true h
      rw [bv_len] at h
      exact iteT (q1 (read_short (by omega)) H (Same.refl H))
    · have h : ¬ ((bv b).length : Int) < 10 := fun z => h (decide_eq_true z)
      rw [bv_len] at h
      obtain ⟨k, hk⟩ : ∃ k, b[9]? = some k := ⟨_, List.getElem?_eq_getElem (by omega)⟩
      refine ⟨_, rfl, a, _, _, _, rfl, rfl, SqL.of ha, at_of (j := 9) rfl (bv_at hk), _, _, rfl, rfl, _, rfl, ite2 (fun h1 => ?_) (fun h1 => ?_)⟩
      · have h1 := of_decide_eq_true h1
        exact q1 (read_many hk (by omega)) H (Same.refl H)
      · have h1 : ¬ (6 : Int) < (k.toNat : Int) := fun z => h1 (decide_eq_true z)
        have rt := read_cavs hk (by omega)
        refine ⟨Nat.zero_le _, fun l hl => ?_⟩
        have s0 : Same H (upd H l (.lst [])) := Same.new hl
        refine ⟨fun m σ H' => ∃ (v : Option V) (ps : List Addr) (cs : List Nt.Caveat) (pl : Nat), σ = [some (.ref a), some (.ref l), some (.int (pl : Int)), v] ∧ Same H H' ∧ H' l = some (.lst (ps.map V.ref)) ∧ CavsAt CC (rm H' l) ps cs ∧ cs.length ≤ k.toNat ∧ m = k.toNat - cs.length ∧ pl ≤ b.length ∧
          Nt.readCaveats k.toNat (b.drop 10) = (Nt.readCaveats (k.toNat - cs.length) (b.drop pl)).map fun x => (cs ++ x.1, x.2), ⟨k.toNat, none, [], [], 10, rfl, s0, upd_same, CavsAt.nil, Nat.zero_le _, rfl, by omega, ?_⟩, ?_⟩
        · show _ = (Nt.readCaveats k.toNat (b.drop 10)).map fun x => (x.1, x.2)
          rw [Option.map_id']
        · rintro m σ H' ⟨v, ps, cs, pl, rfl, s1, hl1, hc1, hm, rfl, hpl, rc⟩
          refine ⟨_, rfl, l, _, rfl, .inl (SqL.of hl1), _, rfl, a, _, _, _, rfl, rfl, SqL.of (s1 _ _ ha), at_of (j := 9) rfl (bv_at hk), _, _, rfl, rfl, _, rfl, ite2 (fun h2 => ?_) (fun h2 => ?_)⟩
          · have h2 := of_decide_eq_true h2
            rw [List.length_map, hc1.1] at h2
            refine ⟨fun σ' H2 => ∃ m', m' < k.toNat - cs.length ∧ ∃ (v : Option V) (ps : List Addr) (cs : List Nt.Caveat) (pl : Nat), σ' = [some (.ref a), some (.ref l), some (.int (pl : Int)), v] ∧ Same H H2 ∧ H2 l = some (.lst (ps.map V.ref)) ∧ CavsAt CC (rm H2 l) ps cs ∧ cs.length ≤ k.toNat ∧ m' = k.toNat - cs.length ∧ pl ≤ b.length ∧
              Nt.readCaveats k.toNat (b.drop 10) = (Nt.readCaveats (k.toNat - cs.length) (b.drop pl)).map fun x => (cs ++ x.1, x.2), fun _ _ h => h, ?_⟩
            obtain ⟨r, hr'⟩ : ∃ r, k.toNat - cs.length = r + 1 := ⟨k.toNat - cs.length - 1, by omega⟩
            rw [hr', rc_succ] at rc
            refine ⟨_, rfl, _, rfl, a, b, pl, rfl, s1 _ _ ha, fun e => ?_, fun c r2 e H3 p dx aa s3 hp1 hp2 np na => ?_⟩
            · rw [e] at rc
              rw [rc] at rt
              refine ⟨_, rfl, _, rfl, ?_⟩
              exact iteT (q1 rt H' s1)
            · rw [e] at rc
              obtain ⟨e1, e2, e3⟩ := rc1_some e
              refine ⟨_, rfl, _, rfl, ?_⟩
              refine iteF ?_
              have npl : p ≠ l := (ne_of_none hl1 np).symm
              have nal : aa ≠ l := (ne_of_none hl1 na).symm
              refine ⟨_, rfl, .inl ⟨rfl, _, SqL.of (s3 _ _ hl1)⟩, _, rfl, l, _, _, rfl, rfl, s3 _ _ hl1, small1000 (by rw [List.length_map, hc1.1]; have := k.toNat_lt; omega), ?_⟩
              have s4 : Same H (upd H3 l (.lst (ps.map V.ref ++ [.ref p]))) := Same.over (s1.trans s3) hl
              refine ⟨_, rfl, _, rfl, p, CC, dx, _, _, rfl, by rw [upd_ne npl]; exact hp1, T.cl_Caveat, T.n_Caveat_argument, rfl, aa, _, rfl, .inl (SqL.of (by rw [upd_ne nal]; exact hp2)), _, _, rfl, rfl, _, _, rfl, rfl, ?_⟩
              refine ⟨k.toNat - (cs ++ [c]).length, by rw [List.length_append, List.length_singleton]; omega, some (.ref p), ps ++ [p], cs ++ [c], pl + 2 + c.arg.length, ?_, s4, ?_, ?_, ?_, rfl, e3, ?_⟩
              · rw [bv_len]
                show [some (V.ref a), some (V.ref l), some (V.int ((pl : Int) + (2 + (c.arg.length : Int)))), some (V.ref p)] = _
                rw [show (pl : Int) + (2 + (c.arg.length : Int)) = ((pl + 2 + c.arg.length : Nat) : Int) by omega]
              · rw [upd_same, List.map_append]
                rfl
              · rw [rm_upd]
                exact (hc1.same (rm_same s3)).snoc ⟨dx, aa, by rw [rm_at npl]; exact hp1, by show rm H3 l aa = _; rw [rm_at nal]; exact hp2⟩
              · rw [List.length_append, List.length_singleton]
                omega
              · rw [rc, List.length_append, List.length_singleton, show k.toNat - (cs.length + 1) = r by omega, ← e1]
                show Option.map _ (Option.map _ (Nt.readCaveats r r2)) = _
                rw [Option.map_map]
                congr 1
                funext x
                show (cs ++ (c :: x.1), x.2) = (cs ++ [c] ++ x.1, x.2)
                rw [List.append_assoc]
                rfl
          · have h2 : ¬ (((ps.map V.ref).length : Nat) : Int) < (k.toNat : Int) := fun z => h2 (decide_eq_true z)
            rw [List.length_map, hc1.1] at h2
            have hk0 : k.toNat - cs.length = 0 := by omega
            have rc : Nt.readCaveats k.toNat (b.drop 10) = some (cs, b.drop pl) := by
              rw [rc, hk0]
              show some (cs ++ [], b.drop pl) = _
              rw [List.append_nil]
            rw [rc] at rt
            have rt : Nt.readToken b = if (b.drop pl).length = 8 then some ⟨(b.getD 0 0).toNat, Nt.num ((b.drop 1).take 8), cs, b.drop pl⟩ else none := rt
            refine ⟨_, rfl, a, _, rfl, .inl (SqL.of (s1 _ _ ha)), _, rfl, _, _, rfl, rfl, rfl, _, rfl, ite2 (fun h3 => ?_) (fun h3 => ?_)⟩
            · have h4 : ¬ (b.drop pl).length = 8 := fun z => by
                rw [List.length_drop] at z
                rw [decide_eq_true (show V.int (((bv b).length : Int) - (pl : Int)) = V.int 8 by rw [bv_len]; congr 1; omega)] at h3
                exact absurd h3 (by decide)
              rw [if_neg h4] at rt
              exact q1 rt H' s1
            · have h4 : (b.drop pl).length = 8 := by
                by_cases z : V.int (((bv b).length : Int) - (pl : Int)) = V.int 8
                · have z := V.int.inj z
                  rw [bv_len] at z
                  rw [List.length_drop]
                  omega
                · rw [decide_eq_false z] at h3
                  exact absurd rfl h3
              rw [if_pos h4] at rt
              obtain ⟨k0, hk0'⟩ : ∃ k0, b[0]? = some k0 := ⟨_, List.getElem?_eq_getElem (by omega)⟩
              have ek0 : b.getD 0 0 = k0 := by rw [List.getD_eq_getElem?_getD, hk0']; rfl
              refine ⟨_, rfl, a, _, _, _, rfl, rfl, SqL.of (s1 _ _ ha), at_of (j := 0) rfl (bv_at hk0'), ?_⟩
              refine ⟨_, rfl, _, rfl, _, rfl, a, _, rfl, SqL.of (s1 _ _ ha), fun p1 n1 => ?_⟩
              have s2 := s1.trans (Same.new (o := .lst (cutV (bv b) (some 1) (some 9))) n1)
              refine ⟨_, rfl, _, rfl, _, rfl, _, rfl, a, _, rfl, SqL.of (s2 _ _ ha), fun p2 n2 => ?_⟩
              have s3' := Same.new (o := .lst (cutV (bv b) (some (pl : Int)) none)) n2
              have s3 := s2.trans s3'
              intro x dx nx nd ne
              have s4 := Same.inst (o := .ins CT dx (tf (.int (k0.toNat : Int)) (.ref p1) (.ref l) (.ref p2))) nx nd
              refine ⟨x, dx, _, _, _, _, rfl, upd_same, rfl, ?_⟩
              rw [upd_upd]
              have r1 := s4 _ _ (s3' _ _ (upd_same (H := H') (a := p1)))
              have hs8 : ((b.drop 1).take 8).length = 8 := by rw [List.length_take, List.length_drop]; omega
              refine q2 _ rt _ x (s3.trans s4) ⟨dx, p1, l, p2, ps, ?_, ?_, ?_, ?_, ?_⟩
              · rw [upd_same, ek0]
              · show _ = some (HO.lst (bv (Nt.le 8 (Nt.num ((b.drop 1).take 8)))))
                have := le_num ((b.drop 1).take 8)
                rw [hs8] at this
                rw [this, r1]
                rw [show (some (1 : Int)) = some ((1 : Nat) : Int) from rfl, show (some (9 : Int)) = some ((9 : Nat) : Int) from rfl, cut_nat, bv_drop, bv_take]
              · exact s4 _ _ (s3' _ _ (Same.new n1 _ _ hl1))
              · exact hc1.same (rm_le.trans ((Same.new n1).trans (s3'.trans s4)))
              · show _ = some (HO.lst (bv (b.drop pl)))
                rw [s4 _ _ upd_same, cut_from, bv_drop]
end
end NT
set_option Elab.async false
set_option linter.all false
set_option maxRecDepth 100000
set_option maxHeartbeats 2000000
namespace NT
open PySem PySem.Spec PyProof.Rows L2
/-- all is as it was, and p is new -/
structure SameN (H H' : Hp) (p : Addr) : Prop where
  s : Same H H'
  n : H p = none
theorem SameN.new {H : Hp} {p : Addr} {o : HO} (h : H p = none) : SameN H (upd H p o) p := ⟨Same.new h, h⟩
theorem _root_.L2.Same.transN {H H1 H2 : Hp} {p : Addr} (a : Same H H1) (b : SameN H1 H2 p) : SameN H H2 p := ⟨a.trans b.s, a.free b.n⟩
/-! ### rows compared -/
def pdl (b : List UInt8) : List PyData := b.map fun c => PyData.int (c.toNat : Int)
theorem eqv_rows : ∀ a b : List UInt8, PyData.eqvAll (pdl a) (pdl b) = decide (a = b)
  | [], [] => by simp [pdl, PyData.eqvAll]
  | [], _ :: _ => by simp [pdl, PyData.eqvAll]
  | _ :: _, [] => by simp [pdl, PyData.eqvAll]
  | x :: r, y :: t => by
    have ih := eqv_rows r t
    show (PyData.eqv (PyData.int (x.toNat : Int)) (PyData.int (y.toNat : Int)) && PyData.eqvAll (pdl r) (pdl t)) = _
    rw [ih]
    show (((x.toNat : Int) == (y.toNat : Int)) && decide (r = t)) = _
    by_cases h : x = y
    · subst h
      by_cases h2 : r = t <;> simp [h2]
    · have h3 : ¬ ((x.toNat : Int) = (y.toNat : Int)) := fun e => h (UInt8.toNat_inj.mp (Int.ofNat.inj e))
      have h4 : ((x.toNat : Int) == (y.toNat : Int)) = false := beq_eq_false_iff_ne.mpr h3
      rw [h4]
      simp [h]
theorem can_row : ∀ b : List UInt8, PyData.canLayAll0 (pdl b) = true
  | [] => rfl
  | _ :: r => can_row r
theorem dep_row : ∀ b : List UInt8, PyData.depthAll (pdl b) ≤ 1
  | [] => Nat.zero_le _
  | _ :: r => by
    have ih := dep_row r
    show max _ (PyData.depthAll (pdl r)) ≤ 1
    exact Nat.max_le.mpr ⟨Nat.zero_le 1, ih⟩
theorem shaped_row (b : List UInt8) : SeqAt.shaped (.list (pdl b)) = true := by
  unfold SeqAt.shaped
  rw [Bool.and_eq_true]
  refine ⟨can_row b, decide_eq_true ?_⟩
  have h := dep_row b
  show PyData.depth (.list (pdl b)) ≤ 64
  unfold PyData.depth
  omega
theorem dp_all {K : PySem.W.Frag} {H : Hp} : ∀ b : List UInt8, DpAll K H (bv b) (pdl b)
  | [] => .nil
  | _ :: r => .cons (.int _) (dp_all r)
theorem dp_row {K : PySem.W.Frag} {H : Hp} {a : Addr} {b : List UInt8} (h : RowAt H a b) : Dp K H (.ref a) (.list (pdl b)) := .lst (SqL.of h) (dp_all b)
/-! ### answers -/
def AnsAt (H : Hp) (p : Addr) (a : NtDesk.Answer) : Prop := H p = some (.lst ((TokenNeutral.told a).map V.int))
theorem told_says (z : Int) : (TokenNeutral.told (NtDesk.says z)).map V.int = [V.int z] := rfl
theorem told_shows (b : List UInt8) : (TokenNeutral.told (NtDesk.shows b)).map V.int = [V.int (b.length : Int)] ++ bv b := by
  show V.int _ :: List.map V.int (([] : List Nat).map _ ++ b.map _) = _
  rw [List.map_nil, List.nil_append, List.map_map]
  rfl
def ReqAt (CQ : Addr) (H : Hp) (q : Addr) (a : Nt.Ask) (uses : Nat) : Prop := ∃ dx pa, H q = some (.ins CQ dx (qf (.int (a.now : Int)) (.int (a.op : Int)) (.ref pa) (.int (uses : Int)))) ∧ RowAt H pa a.path
theorem ReqAt.same {CQ : Addr} {H H' : Hp} {q : Addr} {a : Nt.Ask} {uses : Nat} (h : ReqAt CQ H q a uses) (s : Same H H') : ReqAt CQ H' q a uses := by
  obtain ⟨dx, pa, h1, h2⟩ := h
  exact ⟨dx, pa, s _ _ h1, h2.same s⟩
/-! ### promises -/
def spCheck : Sp := fun vs H Q _ => ∃ (a : Addr) (b : List UInt8), vs = [.ref a] ∧ RowAt H a b ∧ ∀ (H' : Hp) (p : Addr), SameN H H' p → AnsAt H' p (NtDesk.ofToken b fun t => NtDesk.says (NtDesk.nat t.caveats.length)) → Q (.ref p) H'
def spWith (CC CT : Addr) : Sp := fun vs H Q _ => ∃ (tp p : Addr) (t : Nt.Token) (c : Nt.Caveat), vs = [.ref tp, .ref p] ∧ TokAt CC CT H tp t ∧ TokOk t ∧ CavAt CC H p c ∧ CavOk c ∧ ∀ (H' : Hp) (q : Addr), Same H H' → TokAt CC CT H' q (Nt.narrowed t c) → Q (.ref q) H'
def ansNarrow (k : Nat) (b g : List UInt8) : NtDesk.Answer := NtDesk.ofToken b fun t => if 255 < k ∨ Nt.ARG < g.length then NtDesk.says (-2) else if Nt.CAVEATS ≤ t.caveats.length then NtDesk.says (-3) else NtDesk.shows (Nt.tokenBytes (Nt.narrowed t ⟨k, g⟩))
def spNarrow : Sp := fun vs H Q _ => ∃ (k : Nat) (a1 a2 : Addr) (b g : List UInt8), vs = [.int (k : Int), .ref a1, .ref a2] ∧ RowAt H a1 b ∧ RowAt H a2 g ∧ ∀ (H' : Hp) (p : Addr), SameN H H' p → AnsAt H' p (ansNarrow k b g) → Q (.ref p) H'
def spTell : Sp := fun vs H Q _ => ∃ (a : Addr) (b : List UInt8), vs = [.ref a] ∧ RowAt H a b ∧ ∀ (H' : Hp) (p : Addr), SameN H H' p → AnsAt H' p ⟨0, [Nt.hash b / NtDesk.HALF, Nt.hash b % NtDesk.HALF], []⟩ → Q (.ref p) H'
def ansParts (t : Nt.Token) : NtDesk.Answer := ⟨NtDesk.nat t.caveats.length, [t.root, t.serial / NtDesk.HALF, t.serial % NtDesk.HALF] ++ t.caveats.flatMap fun (c : Nt.Caveat) => [c.kind, c.arg.length], t.caveats.flatMap fun (c : Nt.Caveat) => c.arg⟩
def spParts : Sp := fun vs H Q _ => ∃ (a : Addr) (b : List UInt8), vs = [.ref a] ∧ RowAt H a b ∧ b.length ≤ 160 ∧ ∀ (H' : Hp) (p : Addr), SameN H H' p → AnsAt H' p (NtDesk.ofToken b ansParts) → Q (.ref p) H'
section
variable {P : Program} {w : World} {K : PySem.W.Frag} {mg : Str → Option Value} {base : Heap} {CC CT CQ CS CR : Addr}
theorem ofTok_none {b : List UInt8} {f : Nt.Token → NtDesk.Answer} (h : Nt.readToken b = none) : NtDesk.ofToken b f = NtDesk.says (-1) := by
  unfold NtDesk.ofToken
  rw [h]
theorem ofTok_some {b : List UInt8} {t : Nt.Token} {f : Nt.Token → NtDesk.Answer} (h : Nt.readToken b = some t) : NtDesk.ofToken b f = f t := by
  unfold NtDesk.ofToken
  rw [h]
theorem g_check (T : Txt K mg CC CT CQ CS CR) : Gf P w K mg base 5 "check" ["row"] spCheck := by
  refine T.d_check.gf sc_check (fun vs H Q E h => ?_) (fun f cdv A outer s H vs Q E hr h => ?_)
  · obtain ⟨a, b, rfl, _⟩ := h
    rfl
  · obtain ⟨a, b, rfl, ha, q⟩ := h
    refine ⟨_, pss_cons (ps_set (i := 1) sc_check.nd rfl (Or.inl rfl) (pf (g_read T) hr (pa_cons (pv 0) pa_nil)))
      (pss_cons (ps_if (pt_cmp (pc_isN (pv 1))) (pss_one (ps_ret (pe_lst (pa_cons (pe_un un_neg pe_int) pa_nil)))) pss_nil)
      (pss_one (ps_ret (pe_lst (pa_cons (plen T.b_len (pe_fld (pv 1) rfl)) pa_nil))))), ?_⟩
    refine ⟨_, rfl, a, b, rfl, ha, fun e H1 s1 => ?_, fun t e H1 p s1 ht => ?_⟩
    · refine ⟨_, rfl, _, rfl, iteT ⟨_, rfl, (by show 1 ≤ sizeLine; decide), fun p hp => ?_⟩⟩
      exact q _ p (s1.transN (SameN.new hp)) (by rw [ofTok_none e]; exact upd_same)
    · obtain ⟨dx, sa, ca, la, ps, h1, h2, h3, h4, h5⟩ := ht.ex
      refine ⟨_, rfl, _, rfl, iteF ⟨_, rfl, p, CT, dx, _, _, rfl, h1, T.cl_Token, T.n_Token_caveats, rfl, ca, _, rfl, .inl (SqL.of h3), (by show 1 ≤ sizeLine; decide), fun p hp => ?_⟩⟩
      refine q _ p (s1.transN (SameN.new hp)) ?_
      rw [ofTok_some e, List.length_map, h4.1]
      exact upd_same
theorem g_with (T : Txt K mg CC CT CQ CS CR) : Gf P w K mg base 3 "with_caveat" ["token", "caveat"] (spWith CC CT) := by
  refine T.d_with_caveat.gf sc_with_caveat (fun vs H Q E h => ?_) (fun f cdv A outer s H vs Q E hr h => ?_)
  · obtain ⟨tp, p, t, c, rfl, _⟩ := h
    rfl
  · obtain ⟨tp, p, t, c, rfl, ht, ok, hc, ck, q⟩ := h
    obtain ⟨dx, sa, ca, la, ps, h1, h2, h3, h4, h5⟩ := ht.ex
    refine ⟨_, pss_one (ps_ret (pn (g_Token T) hr T.mg_Token (pa_cons (pe_fld (pv 0) rfl) (pa_cons (pe_fld (pv 0) rfl) (pa_cons (pe_op op_cat (pe_fld (pv 0) rfl) (pe_lst (pa_cons (pv 1) pa_nil))) (pa_cons (pf (g_behind T) hr (pa_cons (pe_fld (pv 0) rfl) (pa_cons (pv 1) pa_nil))) pa_nil)))))), ?_⟩
    refine ⟨_, rfl, tp, CT, dx, _, _, rfl, h1, T.cl_Token, T.n_Token_root, rfl, _, rfl, tp, CT, dx, _, _, rfl, h1, T.cl_Token, T.n_Token_serial, rfl, _, rfl, tp, CT, dx, _, _, rfl, h1, T.cl_Token, T.n_Token_caveats, rfl, _, rfl, (by show 1 ≤ sizeLine; decide), fun l1 n1 => ?_⟩
    have s1 := Same.new (o := .lst [.ref p]) n1
    refine ⟨ca, l1, _, _, rfl, rfl, s1 _ _ h3, upd_same, fits (by have := ok.few; rw [List.length_map, h4.1]; simp only [List.length_cons, List.length_nil]; omega), fun l2 n2 => ?_⟩
    have s2 := s1.trans (Same.new (o := .lst (ps.map V.ref ++ [.ref p])) n2)
    refine ⟨_, rfl, tp, CT, dx, _, _, rfl, s2 _ _ h1, T.cl_Token, T.n_Token_seal, rfl, _, rfl, la, p, _, c, rfl, h5.same s2, by rw [ok.seal_]; decide, hc.same s2, ck, fun H3 l3 s3 r3 => ?_⟩
    intro x dy nx nd ne
    have s4 := Same.inst (o := .ins CT dy (tf (.int (t.root : Int)) (.ref sa) (.ref l2) (.ref l3))) nx nd
    have s5 := (s2.trans s3).trans s4
    refine ⟨x, dy, _, _, _, _, rfl, upd_same, rfl, ?_⟩
    rw [upd_upd]
    refine q _ x s5 ⟨dy, sa, l2, l3, ps ++ [p], upd_same, h2.same s5, ?_, (h4.same s5).snoc (hc.same s5), r3.same s4⟩
    rw [s4 _ _ (s3 _ _ upd_same), List.map_append]
    rfl
theorem narrowed_ok {t : Nt.Token} {c : Nt.Caveat} (ok : TokOk t) (h : t.caveats.length ≤ 6) (ck : CavOk c) : TokOk (Nt.narrowed t c) := by
  refine ⟨ok.root, ok.serial, ?_, fun d hd => ?_, hb_len _⟩
  · show (t.caveats ++ [c]).length ≤ 7
    rw [List.length_append, List.length_singleton]
    omega
  · rcases List.mem_append.mp (show d ∈ t.caveats ++ [c] from hd) with z | z
    · exact ok.cavs d z
    · rw [List.mem_singleton.mp z]
      exact ck
theorem tokBytes_len {t : Nt.Token} (ok : TokOk t) : (Nt.tokenBytes t).length = 18 + (t.caveats.flatMap Nt.caveatBytes).length := by
  unfold Nt.tokenBytes
  rw [List.length_append, List.length_append, List.length_append, List.length_append, le_len, le_len, le_len, ok.seal_]
  omega
theorem tokBytes_few {t : Nt.Token} (ok : TokOk t) : (Nt.tokenBytes t).length ≤ 200 := by
  have h1 := cavs_len ok.cavs
  have h2 := ok.few
  rw [tokBytes_len ok]
  omega
theorem g_narrow (T : Txt K mg CC CT CQ CS CR) : Gf P w K mg base 5 "narrow" ["kind", "row", "argument"] spNarrow := by
  refine T.d_narrow.gf sc_narrow (fun vs H Q E h => ?_) (fun f cdv A outer s H vs Q E hr h => ?_)
  · obtain ⟨k, a1, a2, b, g, rfl, _⟩ := h
    rfl
  · obtain ⟨k, a1, a2, b, g, rfl, ha, hg, q⟩ := h
    refine ⟨_, pss_cons (ps_set (i := 3) sc_narrow.nd rfl (Or.inl rfl) (pf (g_read T) hr (pa_cons (pv 1) pa_nil)))
      (pss_cons (ps_if (pt_cmp (pc_isN (pv 3))) (pss_one (ps_ret (pe_lst (pa_cons (pe_un un_neg pe_int) pa_nil)))) pss_nil)
      (pss_cons (ps_if (pw_or (pt_cmpR op_gt (pv 0) (pk T.c_HIGHEST_KIND) (nomark _)) (pw_or1 (pt_cmpR op_gt (plen T.b_len (pv 2)) (pk T.c_LONGEST_ARGUMENT) (nomark _)))).pt (pss_one (ps_ret (pe_lst (pa_cons (pe_un un_neg pe_int) pa_nil)))) pss_nil)
      (pss_cons (ps_if (pt_cmpR op_eq (plen T.b_len (pe_fld (pv 3) rfl)) (pk T.c_MOST_CAVEATS) (nomark _)) (pss_one (ps_ret (pe_lst (pa_cons (pe_un un_neg pe_int) pa_nil)))) pss_nil)
      (pss_cons (ps_set (i := 4) sc_narrow.nd rfl (Or.inl rfl) (pf (g_tokrow T) hr (pa_cons (pf (g_with T) hr (pa_cons (pv 3) (pa_cons (pn (g_Caveat T) hr T.mg_Caveat (pa_cons (pv 0) (pa_cons (pv 2) pa_nil))) pa_nil))) pa_nil)))
      (pss_one (ps_ret (pe_op op_cat (pe_lst (pa_cons (plen T.b_len (pv 4)) pa_nil)) (pv 4)))))))), ?_⟩
    refine ⟨_, rfl, a1, b, rfl, ha, fun e H1 s1 => ?_, fun t e H1 p s1 ht => ?_⟩
    · refine ⟨_, rfl, _, rfl, iteT ⟨_, rfl, (by show 1 ≤ sizeLine; decide), fun p hp => ?_⟩⟩
      exact q _ p (s1.transN (SameN.new hp)) (by unfold ansNarrow; rw [ofTok_none e]; exact upd_same)
    · obtain ⟨ok, few, _⟩ := read_ok e
      obtain ⟨dx, sa, ca, la, ps, h1, h2, h3, h4, h5⟩ := ht.ex
      have bad : ∀ (p : Addr) (H2 : Hp), Same H1 H2 → H2 p = none → (255 < k ∨ 16 < g.length) → Q (.ref p) (upd H2 p (.lst [.int (-2)])) := fun p H2 s2 hp z => by
        refine q _ p ((s1.trans s2).transN (SameN.new hp)) ?_
        unfold ansNarrow
        rw [ofTok_some e, if_pos (show 255 < k ∨ Nt.ARG < g.length from z)]
        exact upd_same
      refine ⟨_, rfl, _, rfl, iteF ?_⟩
      refine ⟨_, rfl, _, _, rfl, rfl, _, rfl, ite2 (fun z => ?_) (fun z => ?_)⟩
      · have z := of_decide_eq_true z
        exact iteT ⟨_, rfl, (by show 1 ≤ sizeLine; decide), fun p hp => bad p H1 (Same.refl _) hp (.inl (by omega))⟩
      · have z : ¬ (255 : Int) < (k : Int) := fun y => z (decide_eq_true y)
        refine ⟨_, rfl, a2, _, rfl, .inl (SqL.of (s1 _ _ hg)), _, _, rfl, rfl, _, rfl, ite2 (fun y => ?_) (fun y => ?_)⟩
        · have y := of_decide_eq_true y
          rw [bv_len] at y
          exact ⟨_, rfl, (by show 1 ≤ sizeLine; decide), fun p hp => bad p H1 (Same.refl _) hp (.inr (by omega))⟩
        · have y : ¬ (16 : Int) < ((bv g).length : Int) := fun x => y (decide_eq_true x)
          rw [bv_len] at y
          have ean : ansNarrow k b g = if Nt.CAVEATS ≤ t.caveats.length then NtDesk.says (-3) else NtDesk.shows (Nt.tokenBytes (Nt.narrowed t ⟨k, g⟩)) := by
            unfold ansNarrow
            rw [ofTok_some e, if_neg (show ¬ (255 < k ∨ Nt.ARG < g.length) from fun x => by rcases x with x | x; (· omega); (· have x : 16 < g.length := x; omega))]
          refine ⟨_, rfl, p, CT, dx, _, _, rfl, h1, T.cl_Token, T.n_Token_caveats, rfl, ca, _, rfl, .inl (SqL.of h3), rfl, _, rfl, ite2 (fun x => ?_) (fun x => ?_)⟩
          · have x := V.int.inj (of_decide_eq_true x)
            rw [List.length_map, h4.1] at x
            refine ⟨_, rfl, (by show 1 ≤ sizeLine; decide), fun p hp => q _ p (s1.transN (SameN.new hp)) ?_⟩
            rw [ean, if_pos (show Nt.CAVEATS ≤ t.caveats.length from (by omega : 6 ≤ t.caveats.length))]
            exact upd_same
          · have x : ¬ t.caveats.length = 6 := fun u => x (decide_eq_true (by rw [List.length_map, h4.1, u]; rfl))
            refine ⟨_, rfl, _, rfl, _, rfl, ?_⟩
            intro xx dy nx nd ne
            have s2 := Same.inst (o := .ins CC dy (cf (.int (k : Int)) (.ref a2))) nx nd
            refine ⟨xx, dy, _, _, rfl, upd_same, rfl, ?_⟩
            rw [upd_upd]
            have ck : CavOk ⟨k, g⟩ := ⟨by show k < 256; omega, by show g.length ≤ 16; omega⟩
            refine ⟨p, xx, t, ⟨k, g⟩, rfl, ht.same s2, ok, ⟨dy, a2, upd_same, s2 _ _ (s1 _ _ hg)⟩, ck, fun H3 q3 s3 t3 => ?_⟩
            have nok := narrowed_ok ok few ck
            refine ⟨q3, _, rfl, t3, nok, fun H4 q4 s4 r4 => ?_⟩
            refine ⟨_, rfl, q4, _, rfl, .inl (SqL.of r4), (by show 1 ≤ sizeLine; decide), fun l5 n5 => ?_⟩
            have s5 := Same.new (o := .lst [.int ((bv (Nt.tokenBytes (Nt.narrowed t ⟨k, g⟩))).length : Int)]) n5
            refine ⟨_, rfl, l5, q4, _, _, rfl, rfl, upd_same, s5 _ _ r4, fits (by have := tokBytes_few nok; simp only [List.length_cons, List.length_nil, bv_len]; omega), fun l6 n6 => ?_⟩
            refine q _ l6 (s1.transN (s2.transN (s3.transN (s4.transN (s5.transN (SameN.new n6)))))) ?_
            rw [ean, if_neg (show ¬ Nt.CAVEATS ≤ t.caveats.length from (by omega : ¬ 6 ≤ t.caveats.length))]
            show upd _ _ _ l6 = _
            rw [upd_same, told_shows, bv_len]
theorem g_tell (T : Txt K mg CC CT CQ CS CR) : Gf P w K mg base 2 "tell_sum" ["row"] spTell := by
  refine T.d_tell_sum.gf sc_tell_sum (fun vs H Q E h => ?_) (fun f cdv A outer s H vs Q E hr h => ?_)
  · obtain ⟨a, b, rfl, _⟩ := h
    rfl
  · obtain ⟨a, b, rfl, ha, q⟩ := h
    refine ⟨_, pss_one (ps_ret (pe_op op_cat (pe_lst (pa_cons pe_int pa_nil)) (pf (g_halves T) hr (pa_cons (pf (g_sum T) hr (pa_cons (pv 0) pa_nil)) pa_nil)))), ?_⟩
    refine ⟨(by show 1 ≤ sizeLine; decide), fun l1 n1 => ?_⟩
    have s1 := Same.new (o := .lst [.int 0]) n1
    refine ⟨_, rfl, a, b, rfl, s1 _ _ ha, _, rfl, fun l2 n2 => ?_⟩
    have s2 := Same.new (o := .lst [.int (Nt.hash b / 4294967296 : Nat), .int (Nt.hash b % 4294967296 : Nat)]) n2
    refine ⟨l1, l2, _, _, rfl, rfl, s2 _ _ upd_same, upd_same, fits (by simp only [List.length_cons, List.length_nil]; omega), fun l3 n3 => ?_⟩
    exact q _ l3 (s1.transN (s2.transN (SameN.new n3))) upd_same
end
end NT
set_option Elab.async false
set_option linter.all false
set_option maxRecDepth 100000
set_option maxHeartbeats 2000000
namespace NT
open PySem PySem.Spec PyProof.Rows L2
def hv (cs : List Nt.Caveat) : List V := (cs.flatMap fun (c : Nt.Caveat) => [c.kind, c.arg.length]).map fun (n : Nat) => V.int (n : Int)
def avb (cs : List Nt.Caveat) : List UInt8 := cs.flatMap fun (c : Nt.Caveat) => c.arg
theorem hv_snoc (cs : List Nt.Caveat) (c : Nt.Caveat) : hv (cs ++ [c]) = hv cs ++ [.int (c.kind : Int), .int (c.arg.length : Int)] := by
  unfold hv
  rw [List.flatMap_append, List.map_append]
  rfl
theorem avb_snoc (cs : List Nt.Caveat) (c : Nt.Caveat) : avb (cs ++ [c]) = avb cs ++ c.arg := by
  unfold avb
  rw [List.flatMap_append]
  simp
theorem hv_len : ∀ cs : List Nt.Caveat, (hv cs).length = 2 * cs.length
  | [] => rfl
  | c :: r => by
    have ih := hv_len r
    show (hv r).length + 1 + 1 = 2 * (r.length + 1)
    omega
theorem avb_len : ∀ {cs : List Nt.Caveat}, (∀ c ∈ cs, CavOk c) → (avb cs).length ≤ 16 * cs.length
  | [], _ => by simp [avb]
  | c :: r, h => by
    have h1 := (h c (List.mem_cons.mpr (.inl rfl))).len
    have h2 := avb_len (cs := r) fun d hd => h d (List.mem_cons.mpr (.inr hd))
    show (c.arg ++ avb r).length ≤ 16 * (r.length + 1)
    rw [List.length_append]
    omega
theorem told_parts (t : Nt.Token) : (TokenNeutral.told (ansParts t)).map V.int = [V.int (t.caveats.length : Int), .int (t.root : Int)] ++ [.int (t.serial / 4294967296 : Nat), .int (t.serial % 4294967296 : Nat)] ++ hv t.caveats ++ bv (avb t.caveats) := by
  unfold TokenNeutral.told ansParts hv bv avb
  simp [NtDesk.nat, NtDesk.HALF, Function.comp_def]
section
variable {P : Program} {w : World} {K : PySem.W.Frag} {mg : Str → Option Value} {base : Heap} {CC CT CQ CS CR : Addr}
theorem g_parts (T : Txt K mg CC CT CQ CS CR) : Gf P w K mg base 5 "parts" ["row"] spParts := by
  refine T.d_parts.gf sc_parts (fun vs H Q E h => ?_) (fun f cdv A outer s H vs Q E hr h => ?_)
  · obtain ⟨a, b, rfl, _⟩ := h
    rfl
  · obtain ⟨a, b, rfl, ha, hbl, q⟩ := h
    refine ⟨_, pss_cons (ps_set (i := 1) sc_parts.nd rfl (Or.inl rfl) (pf (g_read T) hr (pa_cons (pv 0) pa_nil)))
      (pss_cons (ps_if (pt_cmp (pc_isN (pv 1))) (pss_one (ps_ret (pe_lst (pa_cons (pe_un un_neg pe_int) pa_nil)))) pss_nil)
      (pss_cons (ps_set (i := 2) sc_parts.nd rfl (Or.inl rfl) (pe_lst pa_nil))
      (pss_cons (ps_set (i := 3) sc_parts.nd rfl (Or.inl rfl) (pe_lst pa_nil))
      (pss_cons (ps_for PassesOwn.never rfl (pi_list (pe_fld (pv 1) rfl)) (pg_name (i := 4) sc_parts.nd rfl (Or.inl rfl))
        (pss_cons (ps_expr (pe_bm PySem.F.plainAttrs_list PySem.F.slot_list_extend PySem.F.type_list_extend mt_extend (pv 2) (pa_cons (pe_lst (pa_cons (pe_fld (pv 4) rfl) (pa_cons (plen T.b_len (pe_fld (pv 4) rfl)) pa_nil))) pa_nil)))
        (pss_one (ps_expr (pe_bm PySem.F.plainAttrs_list PySem.F.slot_list_extend PySem.F.type_list_extend mt_extend (pv 3) (pa_cons (pe_fld (pv 4) rfl) pa_nil))))))
      (pss_one (ps_ret (pe_op op_cat (pe_op op_cat (pe_op op_cat (pe_lst (pa_cons (plen T.b_len (pe_fld (pv 1) rfl)) (pa_cons (pe_fld (pv 1) rfl) pa_nil))) (pf (g_halves T) hr (pa_cons (pf (g_num T) hr (pa_cons (pe_fld (pv 1) rfl) pa_nil)) pa_nil))) (pv 2)) (pv 3)))))))), ?_⟩
    refine ⟨_, rfl, a, b, rfl, ha, fun e H1 s1 => ?_, fun t e H1 p s1 ht => ?_⟩
    · refine ⟨_, rfl, _, rfl, iteT ⟨_, rfl, (by show 1 ≤ sizeLine; decide), fun p hp => ?_⟩⟩
      exact q _ p (s1.transN (SameN.new hp)) (by rw [ofTok_none e]; exact upd_same)
    · obtain ⟨ok, few, _⟩ := read_ok e
      obtain ⟨dx, sa, ca, la, ps, h1, h2, h3, h4, h5⟩ := ht.ex
      refine ⟨_, rfl, _, rfl, iteF ⟨Nat.zero_le _, fun lh n1 => ⟨Nat.zero_le _, fun lg n2 => ?_⟩⟩⟩
      have s2 := Same.new (o := .lst []) n1
      have s3 := Same.new (o := .lst []) n2
      have f2 : H1 lg = none := s2.free n2
      have nhg : lh ≠ lg := ne_of_none upd_same n2
      have ck : ∀ i, ∀ c ∈ t.caveats.take i, CavOk c := fun i c hc => ok.cavs c (List.mem_of_mem_take hc)
      have cl : ∀ i, (t.caveats.take i).length ≤ 7 := fun i => Nat.le_trans (List.length_take_le' _ _) ok.few
      refine ⟨_, rfl, p, CT, dx, _, _, rfl, s3 _ _ (s2 _ _ h1), T.cl_Token, T.n_Token_caveats, rfl, ca, rfl, ⟨_, SqL.of (s3 _ _ (s2 _ _ h3))⟩, for_list (K := K) (a := ca) (xs := ps.map V.ref)
        (fun i σ H' => ∃ (v : Option V), σ = [some (.ref a), some (.ref p), some (.ref lh), some (.ref lg), v] ∧ Same H1 H' ∧ H' lh = some (.lst (hv (t.caveats.take i))) ∧ H' lg = some (.lst (bv (avb (t.caveats.take i)))))
        ⟨none, rfl, s2.trans s3, s3 _ _ upd_same, upd_same⟩ (fun i σ H' _ ⟨_, _, s4, _⟩ => SqL.of (s4 _ _ h3)) ?_ ?_⟩
      · rintro i y σ H' hi ⟨v, rfl, s4, rh, rg⟩
        obtain ⟨pc, c, rfl, hc, hp⟩ := (h4.same s4).get hi
        obtain ⟨dc, ac, hp1, hp2⟩ := hp
        have hp0 := h4.get hi
        have c1 := hv_len (t.caveats.take i)
        have c2 := avb_len (ck i)
        have c3 := cl i
        have c4 := (ok.cavs c (List.mem_of_getElem? hc)).len
        refine ⟨_, rfl, .inl ⟨rfl, _, SqL.of rh⟩, _, rfl, pc, CC, dc, _, _, rfl, hp1, T.cl_Caveat, T.n_Caveat_kind, rfl, _, rfl, pc, CC, dc, _, _, rfl, hp1, T.cl_Caveat, T.n_Caveat_argument, rfl, ac, _, rfl, .inl (SqL.of hp2), (by show 2 ≤ sizeLine; decide), fun l5 n5 => ?_⟩
        have s5 := Same.new (o := .lst [.int (c.kind : Int), .int ((bv c.arg).length : Int)]) n5
        refine ⟨lh, l5, _, _, rfl, rfl, s5 _ _ rh, upd_same, fits (by simp only [List.length_cons, List.length_nil]; omega), ?_⟩
        have npl : pc ≠ lh := ne_of hp1 rh (by intro z; cases z)
        obtain ⟨pc', c', ez, hc', dc', ac', hp1', hp2'⟩ := hp0
        have e1 : pc' = pc := (V.ref.inj ez).symm
        subst e1
        have e0 : c' = c := Option.some.inj (hc'.symm.trans hc)
        subst e0
        have e2 : ac' = ac := by
          have z := s4 _ _ hp1'
          rw [hp1] at z
          cases z
          rfl
        subst e2
        have nal : ac' ≠ lh := ne_of_none hp2' n1
        have nag : ac' ≠ lg := ne_of_none hp2' f2
        refine ⟨_, rfl, .inl ⟨rfl, _, SqL.of (by rw [upd_ne nhg.symm]; exact s5 _ _ rg)⟩, _, rfl, pc', CC, dc, _, _, rfl, by rw [upd_ne npl]; exact s5 _ _ hp1, T.cl_Caveat, T.n_Caveat_argument, rfl, lg, ac', _, _, rfl, rfl, by rw [upd_ne nhg.symm]; exact s5 _ _ rg, by rw [upd_ne nal]; exact s5 _ _ hp2, fits (by rw [bv_len, bv_len]; omega), ?_⟩
        refine ⟨some (.ref pc'), rfl, Same.over (Same.over (s4.trans s5) n1) f2, ?_, ?_⟩
        · rw [upd_ne nhg, upd_same, take_snoc hc, hv_snoc, bv_len]
        · rw [upd_same, take_snoc hc, avb_snoc, bv_app]
      · rintro σ H' ⟨v, rfl, s4, rh, rg⟩
        rw [List.length_map, h4.1, List.take_length] at rh rg
        have c1 := hv_len t.caveats
        have c2 := avb_len ok.cavs
        refine ⟨_, rfl, p, CT, dx, _, _, rfl, s4 _ _ h1, T.cl_Token, T.n_Token_caveats, rfl, ca, _, rfl, .inl (SqL.of (s4 _ _ h3)), _, rfl, p, CT, dx, _, _, rfl, s4 _ _ h1, T.cl_Token, T.n_Token_root, rfl, (by show 2 ≤ sizeLine; decide), fun l5 n5 => ?_⟩
        have s5 := Same.new (o := .lst [.int ((ps.map V.ref).length : Int), .int (t.root : Int)]) n5
        refine ⟨_, rfl, p, CT, dx, _, _, rfl, s5 _ _ (s4 _ _ h1), T.cl_Token, T.n_Token_serial, rfl, sa, _, rfl, s5 _ _ (s4 _ _ h2), Nt.num (Nt.le 8 t.serial), rfl, fun l6 n6 => ?_⟩
        rw [num_le 8 t.serial (Nat.lt_of_lt_of_le ok.serial (by decide))]
        have s6 := Same.new (o := .lst [.int (t.serial / 4294967296 : Nat), .int (t.serial % 4294967296 : Nat)]) n6
        refine ⟨l5, l6, _, _, rfl, rfl, s6 _ _ upd_same, upd_same, fits (by simp only [List.length_cons, List.length_nil]; omega), fun l7 n7 => ?_⟩
        have s7 := Same.new (o := .lst ([.int ((ps.map V.ref).length : Int), .int (t.root : Int)] ++ [.int (t.serial / 4294967296 : Nat), .int (t.serial % 4294967296 : Nat)])) n7
        refine ⟨_, rfl, l7, lh, _, _, rfl, rfl, upd_same, s7 _ _ (s6 _ _ (s5 _ _ rh)), fits (by simp only [List.length_cons, List.length_nil, List.length_append]; omega), fun l8 n8 => ?_⟩
        have s8 := Same.new (o := .lst ([.int ((ps.map V.ref).length : Int), .int (t.root : Int)] ++ [.int (t.serial / 4294967296 : Nat), .int (t.serial % 4294967296 : Nat)] ++ hv t.caveats)) n8
        refine ⟨_, rfl, l8, lg, _, _, rfl, rfl, upd_same, s8 _ _ (s7 _ _ (s6 _ _ (s5 _ _ rg))), fits (by simp only [List.length_cons, List.length_nil, List.length_append, bv_len]; omega), fun l9 n9 => ?_⟩
        refine q _ l9 (s1.transN (s4.transN (s5.transN (s6.transN (s7.transN (s8.transN (SameN.new n9))))))) ?_
        show upd _ _ _ l9 = _
        rw [upd_same, ofTok_some e, told_parts, List.length_map, h4.1]
end
end NT
set_option Elab.async false
set_option linter.all false
set_option maxRecDepth 100000
set_option maxHeartbeats 2000000
namespace NT
open PySem PySem.Spec PyProof.Rows L2
def spReq (CQ : Addr) : Sp := fun vs H Q _ => ∃ p dx n o a u, vs = [.ref p, n, o, a, u] ∧ H p = some (.ins CQ dx []) ∧ Q .non (upd H p (.ins CQ dx (qf n o a u)))
def spHasOp : Sp := fun vs H Q _ => ∃ n o : Nat, vs = [.int (n : Int), .int (o : Int)] ∧ Q (.bl (decide (o < 32) && n.testBit o)) H
def spHolds (CC CQ : Addr) : Sp := fun vs H Q _ => ∃ (p q : Addr) (c : Nt.Caveat) (a : Nt.Ask) (u : Nat), vs = [.ref p, .ref q] ∧ CavAt CC H p c ∧ ReqAt CQ H q a u ∧ ∀ H', Same H H' → Q (.bl (Nt.holds c a u)) H'
def idxV : Option Nat → V
  | some i => .int (i : Int)
  | none => .non
def spFails (CC CQ : Addr) : Sp := fun vs H Q _ => ∃ (ca q : Addr) (ps : List Addr) (cs : List Nt.Caveat) (a : Nt.Ask) (u : Nat), vs = [.ref ca, .ref q] ∧ H ca = some (.lst (ps.map V.ref)) ∧ CavsAt CC H ps cs ∧ cs.length ≤ 7 ∧ ReqAt CQ H q a u ∧
  ∀ H', Same H H' → Q (idxV (cs.findIdx? fun (c : Nt.Caveat) => !Nt.holds c a u)) H'
def spCounted (CC : Addr) : Sp := fun vs H Q _ => ∃ (ca : Addr) (ps : List Addr) (cs : List Nt.Caveat), vs = [.ref ca] ∧ H ca = some (.lst (ps.map V.ref)) ∧ CavsAt CC H ps cs ∧ cs.length ≤ 7 ∧ ∀ H', Same H H' → Q (.bl (cs.any Nt.isUses)) H'
theorem bit_test (n o : Nat) : decide (V.int (Builtin.bitAnd ((n : Int) / 2 ^ (o : Int).toNat) 1) = V.int 1) = n.testBit o := by
  rw [bitAnd_m1, Int.toNat_natCast, two_pow_cast]
  have e : (n : Int) / ((2 ^ o : Nat) : Int) % 2 = ((n / 2 ^ o % 2 : Nat) : Int) := by
    rw [← Int.natCast_ediv]
    omega
  rw [e, Nat.testBit_eq_decide_div_mod_eq]
  by_cases h : n / 2 ^ o % 2 = 1
  · rw [h]
    rfl
  · rw [decide_eq_false h]
    refine decide_eq_false fun z => h ?_
    have z := V.int.inj z
    omega
theorem pre_take : ∀ (a p : List UInt8), decide (p.take a.length = a) = a.isPrefixOf p
  | [], p => by simp
  | x :: r, [] => by simp
  | x :: r, y :: t => by
    have ih := pre_take r t
    show decide (y :: t.take r.length = x :: r) = (x == y && r.isPrefixOf t)
    rw [← ih]
    by_cases h : y = x
    · subst h
      simp
    · have h' : ¬ x = y := fun z => h z.symm
      simp [h, h']
theorem holds_one (c : Nt.Caveat) (a : Nt.Ask) (u : Nat) (h : c.kind = 1) : Nt.holds c a u = (decide (c.arg.length = 8) && decide (a.now < Nt.num c.arg)) := by
  unfold Nt.holds
  rw [h]
  rfl
theorem holds_two (c : Nt.Caveat) (a : Nt.Ask) (u : Nat) (h : c.kind = 2) : Nt.holds c a u = (decide (c.arg.length = 8) && decide (Nt.num c.arg ≤ a.now)) := by
  unfold Nt.holds
  rw [h]
  rfl
theorem holds_three (c : Nt.Caveat) (a : Nt.Ask) (u : Nat) (h : c.kind = 3) : Nt.holds c a u = (decide (c.arg.length = 4) && (decide (a.op < 32) && (Nt.num c.arg).testBit a.op)) := by
  unfold Nt.holds
  rw [h]
  rfl
theorem holds_four (c : Nt.Caveat) (a : Nt.Ask) (u : Nat) (h : c.kind = 4) : Nt.holds c a u = c.arg.isPrefixOf a.path := by
  unfold Nt.holds
  rw [h]
  rfl
theorem holds_five (c : Nt.Caveat) (a : Nt.Ask) (u : Nat) (h : c.kind = 5) : Nt.holds c a u = (decide (c.arg.length = 4) && decide (u < Nt.num c.arg)) := by
  unfold Nt.holds
  rw [h]
  rfl
theorem holds_other (c : Nt.Caveat) (a : Nt.Ask) (u : Nat) (h1 : ¬ c.kind = 1) (h2 : ¬ c.kind = 2) (h3 : ¬ c.kind = 3) (h4 : ¬ c.kind = 4) (h5 : ¬ c.kind = 5) : Nt.holds c a u = false := by
  unfold Nt.holds
  split <;> first | rfl | contradiction
section
variable {P : Program} {w : World} {K : PySem.W.Frag} {mg : Str → Option Value} {base : Heap} {CC CT CQ CS CR : Addr}
theorem g_Request (T : Txt K mg CC CT CQ CS CR) : Gc P w K mg base 1 CQ ["self", "now", "op", "path", "use_count"] (spReq CQ) := by
  refine T.d_Request_init.gc sc_Request_init (fun vs H Q E h => ?_) (fun f cdv A outer s H vs Q E hr h => ?_)
  · obtain ⟨p, dx, n, o, a, u, rfl, _⟩ := h
    rfl
  · obtain ⟨p, dx, n, o, a, u, rfl, hp, q⟩ := h
    refine ⟨_, pss_cons (ps_fld (pv 0) (pv 1) rfl) (pss_cons (ps_fld (pv 0) (pv 2) rfl) (pss_cons (ps_fld (pv 0) (pv 3) rfl) (pss_one (ps_fld (pv 0) (pv 4) rfl)))), ?_⟩
    refine ⟨_, rfl, _, rfl, p, CQ, dx, _, rfl, hp, T.cl_Request, T.n_Request_now, (by decide), ?_⟩
    refine ⟨_, rfl, _, rfl, p, CQ, dx, _, rfl, upd_same, T.cl_Request, T.n_Request_op, (by show 1 < 1000; decide), ?_⟩
    refine ⟨_, rfl, _, rfl, p, CQ, dx, _, rfl, upd_same, T.cl_Request, T.n_Request_path, (by show 2 < 1000; decide), ?_⟩
    refine ⟨_, rfl, _, rfl, p, CQ, dx, _, rfl, upd_same, T.cl_Request, T.n_Request_use_count, (by show 3 < 1000; decide), ?_⟩
    rw [upd_upd, upd_upd, upd_upd]
    exact q
theorem g_hasop (T : Txt K mg CC CT CQ CS CR) : Gf P w K mg base 1 "has_op" ["ops", "op"] spHasOp := by
  refine T.d_has_op.gf sc_has_op (fun vs H Q E h => ?_) (fun f cdv A outer s H vs Q E hr h => ?_)
  · obtain ⟨n, o, rfl, _⟩ := h
    rfl
  · obtain ⟨n, o, rfl, q⟩ := h
    refine ⟨_, pss_one (ps_ret (pe_and (pe_cmpR op_lt (pv 1) (pk T.c_HOW_MANY_OPS) (nomark _)) (pe_one (pe_cmpR op_eq (pe_op op_and (pe_op op_shr (pv 0) (pv 1)) pe_int) pe_int (nomark _))))), ?_⟩
    refine ⟨_, rfl, _, _, rfl, rfl, _, rfl, ite2 (fun h => ?_) (fun h => ?_)⟩
    · have h := of_decide_eq_true h
      refine ⟨_, rfl, _, rfl, _, _, rfl, rfl, (by show (0 : Int) ≤ (o : Int); omega), _, _, rfl, rfl, rfl, ?_⟩
      rw [decide_eq_true (show o < 32 by omega), Bool.true_and, ← bit_test] at q
      exact q
    · have h : ¬ (o : Int) < 32 := fun z => h (decide_eq_true z)
      rw [decide_eq_false (show ¬ o < 32 by omega), Bool.false_and] at q
      exact q
theorem g_holds (T : Txt K mg CC CT CQ CS CR) : Gf P w K mg base 2 "holds" ["caveat", "request"] (spHolds CC CQ) := by
  refine T.d_holds.gf sc_holds (fun vs H Q E h => ?_) (fun f cdv A outer s H vs Q E hr h => ?_)
  · obtain ⟨p, q, c, a, u, rfl, _⟩ := h
    rfl
  · obtain ⟨p, qr, c, a, u, rfl, ⟨dx, aa, h1, h2⟩, ⟨dq, pa, r1, r2⟩, q⟩ := h
    refine ⟨_, pss_cons (ps_set (i := 2) sc_holds.nd rfl (Or.inl rfl) (plen T.b_len (pe_fld (pv 0) rfl)))
      (pss_cons (ps_set (i := 3) sc_holds.nd rfl (Or.inl rfl) (pf (g_num T) hr (pa_cons (pe_fld (pv 0) rfl) pa_nil)))
      (pss_cons (ps_if (pt_cmpR op_eq (pe_fld (pv 0) rfl) (pk T.c_KIND_BEFORE) (nomark _)) (pss_one (ps_ret (pe_and (pe_cmpR op_eq (pv 2) (pk T.c_MOMENT_LENGTH) (nomark _)) (pe_one (pe_cmpR op_lt (pe_fld (pv 1) rfl) (pv 3) (nomark _)))))) pss_nil)
      (pss_cons (ps_if (pt_cmpR op_eq (pe_fld (pv 0) rfl) (pk T.c_KIND_FROM) (nomark _)) (pss_one (ps_ret (pe_and (pe_cmpR op_eq (pv 2) (pk T.c_MOMENT_LENGTH) (nomark _)) (pe_one (pe_cmpR op_ge (pe_fld (pv 1) rfl) (pv 3) (nomark _)))))) pss_nil)
      (pss_cons (ps_if (pt_cmpR op_eq (pe_fld (pv 0) rfl) (pk T.c_KIND_OPS) (nomark _)) (pss_one (ps_ret (pe_and (pe_cmpR op_eq (pv 2) (pk T.c_OPS_LENGTH) (nomark _)) (pe_one (pf (g_hasop T) hr (pa_cons (pv 3) (pa_cons (pe_fld (pv 1) rfl) pa_nil))))))) pss_nil)
      (pss_cons (ps_if (pt_cmpR op_eq (pe_fld (pv 0) rfl) (pk T.c_KIND_PATH) (nomark _)) (pss_one (ps_ret (pe_cmpR (op_eqD hr.units) (pe_slice sl_list (pe_fld (pv 1) rfl) po_none (po_some (pv 2))) (pe_fld (pv 0) rfl) (nomark _)))) pss_nil)
      (pss_cons (ps_if (pt_cmpR op_eq (pe_fld (pv 0) rfl) (pk T.c_KIND_USES) (nomark _)) (pss_one (ps_ret (pe_and (pe_cmpR op_eq (pv 2) (pk T.c_USES_LENGTH) (nomark _)) (pe_one (pe_cmpR op_lt (pe_fld (pv 1) rfl) (pv 3) (nomark _)))))) pss_nil)
      (pss_one (ps_ret pe_bl)))))))), ?_⟩
    have q0 := q H (Same.refl H)
    refine ⟨_, rfl, p, CC, dx, _, _, rfl, h1, T.cl_Caveat, T.n_Caveat_argument, rfl, aa, _, rfl, .inl (SqL.of h2), ?_⟩
    refine ⟨_, rfl, p, CC, dx, _, _, rfl, h1, T.cl_Caveat, T.n_Caveat_argument, rfl, aa, _, rfl, h2, ?_⟩
    have kd : ∀ {n : Nat}, decide (V.int (c.kind : Int) = V.int (n : Int)) = true → c.kind = n := fun {n} z => by
      have z := V.int.inj (of_decide_eq_true z)
      omega
    have kn : ∀ {n : Nat}, ¬ decide (V.int (c.kind : Int) = V.int (n : Int)) = true → ¬ c.kind = n := fun {n} z y => z (decide_eq_true (by rw [y]))
    have ln : ∀ {n : Nat}, decide (V.int ((bv c.arg).length : Int) = V.int (n : Int)) = true → c.arg.length = n := fun {n} z => by
      have z := V.int.inj (of_decide_eq_true z)
      rw [bv_len] at z
      omega
    have lnn : ∀ {n : Nat}, ¬ decide (V.int ((bv c.arg).length : Int) = V.int (n : Int)) = true → ¬ c.arg.length = n := fun {n} z y => z (decide_eq_true (by rw [bv_len, y]))
    refine ⟨_, rfl, p, CC, dx, _, _, rfl, h1, T.cl_Caveat, T.n_Caveat_kind, rfl, rfl, _, rfl, ite2 (fun k1 => ?_) (fun k1 => ?_)⟩
    · rw [holds_one c a u (kd (n := 1) k1)] at q0
      refine ⟨_, rfl, rfl, _, rfl, ite2 (fun l1 => ?_) (fun l1 => ?_)⟩
      · rw [decide_eq_true (ln (n := 8) l1), Bool.true_and] at q0
        refine ⟨_, rfl, qr, CQ, dq, _, _, rfl, r1, T.cl_Request, T.n_Request_now, rfl, _, rfl, _, _, rfl, rfl, ?_⟩
        rw [show decide (a.now < Nt.num c.arg) = decide ((a.now : Int) < (Nt.num c.arg : Int)) by simp] at q0
        exact q0
      · rw [decide_eq_false (lnn (n := 8) l1), Bool.false_and] at q0
        exact q0
    · refine ⟨_, rfl, p, CC, dx, _, _, rfl, h1, T.cl_Caveat, T.n_Caveat_kind, rfl, rfl, _, rfl, ite2 (fun k2 => ?_) (fun k2 => ?_)⟩
      · rw [holds_two c a u (kd (n := 2) k2)] at q0
        refine ⟨_, rfl, rfl, _, rfl, ite2 (fun l1 => ?_) (fun l1 => ?_)⟩
        · rw [decide_eq_true (ln (n := 8) l1), Bool.true_and] at q0
          refine ⟨_, rfl, qr, CQ, dq, _, _, rfl, r1, T.cl_Request, T.n_Request_now, rfl, _, rfl, _, _, rfl, rfl, ?_⟩
          rw [show decide (Nt.num c.arg ≤ a.now) = decide ((Nt.num c.arg : Int) ≤ (a.now : Int)) by simp] at q0
          exact q0
        · rw [decide_eq_false (lnn (n := 8) l1), Bool.false_and] at q0
          exact q0
      · refine ⟨_, rfl, p, CC, dx, _, _, rfl, h1, T.cl_Caveat, T.n_Caveat_kind, rfl, rfl, _, rfl, ite2 (fun k3 => ?_) (fun k3 => ?_)⟩
        · rw [holds_three c a u (kd (n := 3) k3)] at q0
          refine ⟨_, rfl, rfl, _, rfl, ite2 (fun l1 => ?_) (fun l1 => ?_)⟩
          · rw [decide_eq_true (ln (n := 4) l1), Bool.true_and] at q0
            exact ⟨_, rfl, _, rfl, qr, CQ, dq, _, _, rfl, r1, T.cl_Request, T.n_Request_op, rfl, Nt.num c.arg, a.op, rfl, q0⟩
          · rw [decide_eq_false (lnn (n := 4) l1), Bool.false_and] at q0
            exact q0
        · refine ⟨_, rfl, p, CC, dx, _, _, rfl, h1, T.cl_Caveat, T.n_Caveat_kind, rfl, rfl, _, rfl, ite2 (fun k4 => ?_) (fun k4 => ?_)⟩
          · refine ⟨_, rfl, qr, CQ, dq, _, _, rfl, r1, T.cl_Request, T.n_Request_path, rfl, _, rfl, _, rfl, pa, _, rfl, SqL.of r2, fun l5 n5 => ?_⟩
            have s5 := Same.new (o := .lst (cutV (bv a.path) none (some ((bv c.arg).length : Int)))) n5
            have q5 := q _ s5
            rw [holds_four c a u (kd (n := 4) k4), ← pre_take, ← eqv_rows] at q5
            refine ⟨_, rfl, p, CC, dx, _, _, rfl, s5 _ _ h1, T.cl_Caveat, T.n_Caveat_argument, rfl, _, _, dp_row (b := a.path.take c.arg.length) ?_, dp_row (s5 _ _ h2), shaped_row _, shaped_row _, q5⟩
            show upd _ _ _ l5 = _
            rw [upd_same, cut_to, bv_len, bv_take]
          · refine ⟨_, rfl, p, CC, dx, _, _, rfl, h1, T.cl_Caveat, T.n_Caveat_kind, rfl, rfl, _, rfl, ite2 (fun k5 => ?_) (fun k5 => ?_)⟩
            · rw [holds_five c a u (kd (n := 5) k5)] at q0
              refine ⟨_, rfl, rfl, _, rfl, ite2 (fun l1 => ?_) (fun l1 => ?_)⟩
              · rw [decide_eq_true (ln (n := 4) l1), Bool.true_and] at q0
                refine ⟨_, rfl, qr, CQ, dq, _, _, rfl, r1, T.cl_Request, T.n_Request_use_count, rfl, _, rfl, _, _, rfl, rfl, ?_⟩
                rw [show decide (u < Nt.num c.arg) = decide ((u : Int) < (Nt.num c.arg : Int)) by simp] at q0
                exact q0
              · rw [decide_eq_false (lnn (n := 4) l1), Bool.false_and] at q0
                exact q0
            · rw [holds_other c a u (kn (n := 1) k1) (kn (n := 2) k2) (kn (n := 3) k3) (kn (n := 4) k4) (kn (n := 5) k5)] at q0
              exact q0
end
end NT
set_option Elab.async false
set_option linter.all false
set_option maxRecDepth 100000
set_option maxHeartbeats 2000000
namespace NT
open PySem PySem.Spec PyProof.Rows L2
theorem find_at : ∀ {cs : List Nt.Caveat} {i : Nat} {c : Nt.Caveat} {p : Nt.Caveat → Bool}, cs[i]? = some c → p c = true → (∀ d ∈ cs.take i, p d = false) → cs.findIdx? p = some i
  | [], _, _, _, h, _, _ => by simp at h
  | a :: r, 0, c, p, h, hc, _ => by
    have e : a = c := Option.some.inj h
    subst e
    rw [List.findIdx?_cons, hc]
    rfl
  | a :: r, i + 1, c, p, h, hc, ht => by
    have h1 : p a = false := ht a (List.mem_cons.mpr (.inl rfl))
    have ih := find_at (cs := r) (i := i) (c := c) (p := p) h hc fun d hd => ht d (List.mem_cons.mpr (.inr hd))
    rw [List.findIdx?_cons, h1, ih]
    rfl
theorem find_no : ∀ {cs : List Nt.Caveat} {p : Nt.Caveat → Bool}, (∀ d ∈ cs, p d = false) → cs.findIdx? p = none
  | [], _, _ => rfl
  | a :: r, p, ht => by
    rw [List.findIdx?_cons, ht a (List.mem_cons.mpr (.inl rfl)), find_no fun d hd => ht d (List.mem_cons.mpr (.inr hd))]
    rfl
section
variable {X : Cx} {o : Expr} {ta : TE} {p pos : Pos}
theorem pany (hc : X.calm = true) (hm : X.mg "any" = none) (ho : PE X o ta) (hg : Gl X "any" := by rfl) (hs : starEach [o] X.env = (false, eval o X.env) :: starEach [] X.env := by rfl) : PE X (.Call (.Name "any" p) [o] [] pos) (tCB (rAny X.K) (tCons ta tNil)) :=
  pe_callB (cr_any hc) hg hm PyProof.Rows.boot_any (pa_cons ho pa_nil hs) (he := hs)
end
section
variable {P : Program} {w : World} {K : PySem.W.Frag} {mg : Str → Option Value} {base : Heap} {CC CT CQ CS CR : Addr}
theorem g_fails (T : Txt K mg CC CT CQ CS CR) : Gf P w K mg base 3 "first_that_fails" ["caveats", "request"] (spFails CC CQ) := by
  refine T.d_first_that_fails.gf sc_first_that_fails (fun vs H Q E h => ?_) (fun f cdv A outer s H vs Q E hr h => ?_)
  · obtain ⟨ca, q, ps, cs, a, u, rfl, _⟩ := h
    rfl
  · obtain ⟨ca, qr, ps, cs, a, u, rfl, h1, h2, hl, h3, q⟩ := h
    refine ⟨_, pss_cons (ps_for PassesOwn.never rfl (pi_range1 rfl T.b_range (pa_cons (plen T.b_len (pv 0)) pa_nil)) (pg_name (i := 2) sc_first_that_fails.nd rfl (Or.inl rfl))
        (pss_one (ps_if (pt_not (pt_val (pf (g_holds T) hr (pa_cons (pe_ix ix_list (pv 0) (pv 2) (fun _ _ => rfl)) (pa_cons (pv 1) pa_nil))))) (pss_one (ps_ret (pv 2))) pss_nil)))
      (pss_one (ps_ret pe_non)), ?_⟩
    have el : (ps.map V.ref).length = cs.length := by rw [List.length_map, h2.1]
    refine ⟨_, rfl, ca, _, rfl, .inl (SqL.of h1), ((ps.map V.ref).length : Int), rfl, by omega, by omega, ?_⟩
    rw [el, Int.toNat_natCast]
    refine for_range (lo := 0) (n := cs.length) (fun i σ H' => ∃ v : Option V, σ = [some (.ref ca), some (.ref qr), v] ∧ Same H H' ∧ ∀ d ∈ cs.take i, (!Nt.holds d a u) = false) ⟨none, rfl, Same.refl H, fun d hd => by simp at hd⟩ ?_ ?_
    · rintro i σ H' hi ⟨v, rfl, s1, al⟩
      obtain ⟨p, hp⟩ : ∃ p, ps[i]? = some p := ⟨_, List.getElem?_eq_getElem (by rw [h2.1]; exact hi)⟩
      have hc := List.getElem?_eq_getElem hi
      have hcav := h2.2 i p _ hp hc
      refine ⟨_, rfl, _, rfl, ca, _, _, _, rfl, rfl, SqL.of (s1 _ _ h1), at_of (j := i) (v := V.ref p) (by omega) (by rw [List.getElem?_map, hp]; rfl), _, rfl, p, qr, cs[i], a, u, rfl, hcav.same s1, h3.same s1, fun H2 s2 => ?_⟩
      refine ⟨_, rfl, ite2 (fun z => ?_) (fun z => ?_)⟩
      · refine ⟨_, rfl, ?_⟩
        have e := q H2 (s1.trans s2)
        rw [find_at hc z al] at e
        show Q (V.int (0 + (i : Int))) H2
        rw [Int.zero_add]
        exact e
      · refine ⟨some (.int (0 + (i : Int))), rfl, s1.trans s2, fun d hd => ?_⟩
        rw [take_snoc hc] at hd
        rcases List.mem_append.mp hd with y | y
        · exact al d y
        · rw [List.mem_singleton.mp y]
          exact Bool.eq_false_iff.mpr z
    · rintro σ H' ⟨v, rfl, s1, al⟩
      rw [List.take_length] at al
      have e := q H' s1
      rw [find_no al] at e
      exact e
theorem g_counted (T : Txt K mg CC CT CQ CS CR) : Gf P w K mg base 1 "is_counted" ["caveats"] (spCounted CC) := by
  refine T.d_is_counted.gf sc_is_counted (fun vs H Q E h => ?_) (fun f cdv A outer s H vs Q E hr h => ?_)
  · obtain ⟨ca, ps, cs, rfl, _⟩ := h
    rfl
  · obtain ⟨ca, ps, cs, rfl, h1, h2, hl, q⟩ := h
    refine ⟨_, pss_one (ps_ret (pany rfl T.b_any (pe_lc (te := tOp rEq (tFld K (tVar 1) "kind") (tC (.int 5))) (own := [("caveat", 1)]) rfl sc_is_counted.nd (pi_list (pv 0)) (blkOk_by (N := ["caveats", "caveat"]) (sc := defScope s_is_counted) (by decide +kernel))
      (fun _ _ _ _ _ => pg_name (i := 1) sc_is_counted.nd rfl (Or.inl rfl)) (fun _ _ _ _ _ => pts_nil) (fun _ _ _ _ _ => pe_cmpR op_eq (pe_fld (pv 1) rfl) (pk T.c_KIND_USES) (nomark _))))), ?_⟩
    refine ⟨_, rfl, ca, rfl, ⟨_, SqL.of h1⟩, fun D hD => lc_list (K := K) (a := ca) (xs := ps.map V.ref) (fun i H' => H' = upd H D (.lst (((cs.take i).map Nt.isUses).map V.bl))) rfl (fun i H' _ e => by rw [e]; exact SqL.of (Same.new hD _ _ h1)) ?_ ?_⟩
    · rintro i y H' hi rfl
      have s1 := Same.new (o := .lst (((cs.take i).map Nt.isUses).map V.bl)) hD
      obtain ⟨p, c, rfl, hc, hp⟩ := (h2.same s1).get hi
      obtain ⟨dx, aa, hp1, hp2⟩ := hp
      refine ⟨rfl, ?_⟩
      unfold tYes
      dsimp only
      rw [if_pos rfl]
      refine ⟨_, rfl, p, CC, dx, _, _, rfl, hp1, T.cl_Caveat, T.n_Caveat_kind, rfl, rfl, _, upd_same, ?_, ?_⟩
      · rw [List.length_map, List.length_map]
        exact small1000 (Nat.le_trans (List.length_take_le' _ _) (by omega))
      · rw [upd_upd, take_snoc hc, List.map_append, List.map_append]
        congr 4
        show V.bl (decide (V.int (c.kind : Int) = V.int 5)) = V.bl (c.kind == 5)
        congr 1
        by_cases z : c.kind = 5
        · rw [z]
          rfl
        · rw [beq_eq_false_iff_ne.mpr z]
          exact decide_eq_false fun y => z (by have y := V.int.inj y; omega)
    · rintro H' rfl
      rw [List.length_map, h2.1, List.take_length]
      refine ⟨D, cs.map Nt.isUses, rfl, SqL.of upd_same, ?_⟩
      rw [List.any_map]
      exact q _ (Same.new hD)
end
end NT
set_option Elab.async false
set_option linter.all false
set_option maxRecDepth 100000
set_option maxHeartbeats 2000000
namespace NT
open PySem PySem.Spec PyProof.Rows L2
/-! ### the service's dicts -/
def gk (x : Nat × Nat) : List Key := [Sum.inl (x.1 : Int), Sum.inl (x.2 : Int)]
theorem gk_inj {x y : Nat × Nat} (h : gk x = gk y) : x = y := by
  unfold gk at h
  injection h with h1 h2
  injection h2 with h2 _
  have a1 := Sum.inl.inj h1
  have a2 := Sum.inl.inj h2
  exact Prod.ext (Int.ofNat.inj a1) (Int.ofNat.inj a2)
def goneD (g : List (Nat × Nat)) : List (List Key × V) := g.map fun x => (gk x, V.bl true)
def cntD (c : List ((Nat × Nat) × Nat)) : List (List Key × V) := c.map fun y => (gk y.1, V.int (y.2 : Int))
theorem val_map {α : Type} (f : α → Nat × Nat) (v : α → V) (x : Nat × Nat) : ∀ l : List α, valV (l.map fun e => (gk (f e), v e)) (gk x) = (l.find? fun e => f e == x).map v
  | [] => rfl
  | a :: r => by
    have ih := val_map f v x r
    rw [List.map_cons, List.find?_cons]
    by_cases h : f a = x
    · rw [valV_pos (show gk (f a) = gk x by rw [h]), beq_iff_eq.mpr h]
      rfl
    · rw [valV_neg (show ¬ gk (f a) = gk x from fun z => h (gk_inj z)), beq_eq_false_iff_ne.mpr h]
      exact ih
theorem val_gone (g : List (Nat × Nat)) (x : Nat × Nat) : (valV (goneD g) (gk x)).isSome = g.contains x := by
  have h := val_map (fun y => y) (fun _ => V.bl true) x g
  unfold goneD
  rw [h, Option.isSome_map, List.contains_eq_any_beq]
  induction g with
  | nil => rfl
  | cons a r ih =>
    have ih := ih (val_map (fun y => y) (fun _ => V.bl true) x r)
    rw [List.find?_cons, List.any_cons]
    by_cases e : a = x
    · subst e
      simp
    · have e1 : (a == x) = false := beq_eq_false_iff_ne.mpr e
      have e2 : (x == a) = false := beq_eq_false_iff_ne.mpr fun z => e z.symm
      rw [e1, e2]
      exact ih
theorem val_cnt (c : List ((Nat × Nat) × Nat)) (x : Nat × Nat) : valV (cntD c) (gk x) = (c.find? fun y => y.1 == x).map fun y => V.int (y.2 : Int) :=
  val_map (fun (y : (Nat × Nat) × Nat) => y.1) (fun (y : (Nat × Nat) × Nat) => V.int (y.2 : Int)) x c
structure SvOk (st : Nt.Service) : Prop where
  keys : st.keys.length = 8
  gone : st.gone.length ≤ 16
  counts : st.counts.length ≤ 16
  gnd : st.gone.Nodup
  nd : (st.counts.map (·.1)).Nodup
  pos : ∀ y ∈ st.counts, 0 < y.2
theorem cnt_get {st : Nt.Service} (x : Nat × Nat) : ((valV (cntD st.counts) (gk x)).getD (.int 0)) = .int (st.count x : Int) := by
  rw [val_cnt]
  unfold Nt.Service.count
  cases (st.counts.find? fun y => y.1 == x) with
  | none => rfl
  | some y => rfl
theorem cnt_none {st : Nt.Service} (ok : SvOk st) (x : Nat × Nat) : (valV (cntD st.counts) (gk x)).isSome = !decide (st.count x = 0) := by
  rw [val_cnt]
  unfold Nt.Service.count
  cases e : (st.counts.find? fun y => y.1 == x) with
  | none => rfl
  | some y =>
    have h := ok.pos y (List.mem_of_find?_eq_some e)
    show true = !decide (y.2 = 0)
    rw [decide_eq_false (by omega)]
    rfl
theorem put_gone (g : List (Nat × Nat)) (x : Nat × Nat) : putK (goneD g) (gk x) (.bl true) = goneD (if g.contains x = true then g else g ++ [x]) := by
  unfold putK
  rw [valV_any, val_gone]
  by_cases h : g.contains x = true
  · rw [if_pos h, if_pos h]
    unfold goneD
    rw [List.map_map]
    refine List.map_congr_left fun y _ => ?_
    show (if gk y = gk x then (gk y, V.bl true) else (gk y, V.bl true)) = (gk y, V.bl true)
    by_cases e : gk y = gk x
    · rw [if_pos e]
    · rw [if_neg e]
  · rw [if_neg h, if_neg h]
    unfold goneD
    rw [List.map_append]
    rfl
theorem find_uniq : ∀ {c : List ((Nat × Nat) × Nat)} {y : (Nat × Nat) × Nat}, (c.map (·.1)).Nodup → y ∈ c → (c.find? fun z => z.1 == y.1) = some y
  | [], _, _, h => by simp at h
  | a :: r, y, nd, h => by
    obtain ⟨n1, n2⟩ := List.nodup_cons.mp (show (a.1 :: r.map (·.1)).Nodup from nd)
    rw [List.find?_cons]
    rcases List.mem_cons.mp h with e | e
    · subst e
      simp
    · have ne : ¬ a.1 = y.1 := fun z => n1 (by rw [z]; exact List.mem_map.mpr ⟨y, e, rfl⟩)
      rw [beq_eq_false_iff_ne.mpr ne]
      exact find_uniq n2 e
theorem put_cnt {st : Nt.Service} (ok : SvOk st) (x : Nat × Nat) : putK (cntD st.counts) (gk x) (.int ((st.count x : Int) + 1)) = cntD (st.counted x).counts := by
  unfold putK Nt.Service.counted
  rw [valV_any, cnt_none ok]
  by_cases h : st.count x = 0
  · rw [decide_eq_true h, if_pos h, h]
    show (if (!true) = true then _ else _) = cntD (st.counts ++ [(x, 1)])
    rw [if_neg (by decide)]
    unfold cntD
    rw [List.map_append]
    rfl
  · rw [decide_eq_false h, if_neg h]
    show (if (!false) = true then _ else _) = cntD (st.counts.map fun (y : (Nat × Nat) × Nat) => if y.1 = x then (y.1, y.2 + 1) else y)
    rw [if_pos (by decide)]
    unfold cntD
    rw [List.map_map, List.map_map]
    refine List.map_congr_left fun y hy => ?_
    show (if gk y.1 = gk x then (gk y.1, V.int ((st.count x : Int) + 1)) else (gk y.1, V.int (y.2 : Int))) = _
    by_cases e : y.1 = x
    · rw [if_pos (by rw [e])]
      show _ = (fun (y : (Nat × Nat) × Nat) => (gk y.1, V.int (y.2 : Int))) (if y.1 = x then (y.1, y.2 + 1) else y)
      rw [if_pos e]
      have hc : st.count x = y.2 := by
        unfold Nt.Service.count
        rw [← e, find_uniq ok.nd hy]
        rfl
      rw [hc]
      rfl
    · rw [if_neg fun z => e (gk_inj z)]
      show _ = (fun (y : (Nat × Nat) × Nat) => (gk y.1, V.int (y.2 : Int))) (if y.1 = x then (y.1, y.2 + 1) else y)
      rw [if_neg e]
theorem counted_ok {st : Nt.Service} (ok : SvOk st) (x : Nat × Nat) (h : st.count x = 0 → st.counts.length < 16) : SvOk (st.counted x) := by
  unfold Nt.Service.counted
  by_cases e : st.count x = 0
  · rw [if_pos e]
    have nm : ¬ x ∈ st.counts.map (·.1) := fun m => by
      obtain ⟨y, hy, ey⟩ := List.mem_map.mp m
      have hc : st.count x = y.2 := by
        unfold Nt.Service.count
        rw [← ey, find_uniq ok.nd hy]
        rfl
      have := ok.pos y hy
      omega
    refine ⟨ok.keys, ok.gone, ?_, ok.gnd, ?_, fun y hy => ?_⟩
    · show (st.counts ++ [(x, 1)]).length ≤ 16
      rw [List.length_append, List.length_singleton]
      exact h e
    · show ((st.counts ++ [(x, 1)]).map fun (z : (Nat × Nat) × Nat) => z.1).Nodup
      rw [List.map_append]
      exact nd_snoc ok.nd nm
    · rcases List.mem_append.mp (show y ∈ st.counts ++ [(x, 1)] from hy) with z | z
      · exact ok.pos y z
      · rw [List.mem_singleton.mp z]
        exact Nat.one_pos
  · rw [if_neg e]
    refine ⟨ok.keys, ok.gone, ?_, ok.gnd, ?_, fun y hy => ?_⟩
    · show (st.counts.map _).length ≤ 16
      rw [List.length_map]
      exact ok.counts
    · show ((st.counts.map fun (y : (Nat × Nat) × Nat) => if y.1 = x then (y.1, y.2 + 1) else y).map (·.1)).Nodup
      rw [List.map_map]
      have e2 : (st.counts.map ((fun (z : (Nat × Nat) × Nat) => z.1) ∘ fun (y : (Nat × Nat) × Nat) => if y.1 = x then (y.1, y.2 + 1) else y)) = st.counts.map (·.1) := by
        refine List.map_congr_left fun y _ => ?_
        show (if y.1 = x then (y.1, y.2 + 1) else y).1 = y.1
        by_cases q : y.1 = x
        · rw [if_pos q]
        · rw [if_neg q]
      rw [e2]
      exact ok.nd
    · obtain ⟨z, hz, ez⟩ := List.mem_map.mp (show y ∈ st.counts.map (fun (y : (Nat × Nat) × Nat) => if y.1 = x then (y.1, y.2 + 1) else y) from hy)
      have pz := ok.pos z hz
      rw [← ez]
      by_cases q : z.1 = x
      · rw [if_pos q]
        exact Nat.succ_pos _
      · rw [if_neg q]
        exact pz
/-! ### at most eight keys -/
theorem few_keys : ∀ (n : Nat) (kvs : List (Key × V)), (kvs.map (·.1)).Nodup → (∀ p ∈ kvs, ∃ r : Nat, r < n ∧ p.1 = Sum.inl (r : Int)) → kvs.length ≤ n
  | 0, kvs, _, h => by
    match kvs, h with
    | [], _ => exact Nat.le_refl _
    | p :: r, h =>
      obtain ⟨r, hr, _⟩ := h p (List.mem_cons.mpr (.inl rfl))
      exact absurd hr (Nat.not_lt_zero _)
  | n + 1, kvs, nd, h => by
    have ih := few_keys n (dropK kvs (Sum.inl (n : Int))) (nd_dropK nd) fun p hp => by
      obtain ⟨r, hr, e⟩ := h p (dropK_mem hp)
      refine ⟨r, ?_, e⟩
      have ne : ¬ p.1 = Sum.inl (n : Int) := by
        unfold dropK at hp
        exact of_decide_eq_true (List.mem_filter.mp hp).2
      have ne2 : r ≠ n := fun z => ne (by rw [e, z])
      omega
    by_cases m : Sum.inl (n : Int) ∈ kvs.map (·.1)
    · have := dropK_len nd m
      omega
    · rw [dropK_no m] at ih
      omega
theorem putK_keys {kvs : List (Key × V)} {k : Key} {v : V} (nd : (kvs.map (·.1)).Nodup) : ((putK kvs k v).map (·.1)).Nodup ∧ ∀ p ∈ putK kvs k v, p.1 = k ∨ ∃ q ∈ kvs, q.1 = p.1 := by
  cases e : valV kvs k with
  | none =>
    refine ⟨nd_putK v nd e, fun p hp => ?_⟩
    rw [putK_new v e] at hp
    rcases List.mem_append.mp hp with z | z
    · exact .inr ⟨p, z, rfl⟩
    · rw [List.mem_singleton.mp z]
      exact .inl rfl
  | some u =>
    have h : putK kvs k v = kvs.map fun kv => if kv.1 = k then (kv.1, v) else kv := by
      unfold putK
      rw [valV_any, e]
      rfl
    rw [h]
    refine ⟨?_, fun p hp => ?_⟩
    · rw [List.map_map]
      have e2 : kvs.map ((fun (q : Key × V) => q.1) ∘ fun kv => if kv.1 = k then (kv.1, v) else kv) = kvs.map (·.1) := by
        refine List.map_congr_left fun y _ => ?_
        show (if y.1 = k then (y.1, v) else y).1 = y.1
        by_cases q : y.1 = k
        · rw [if_pos q]
        · rw [if_neg q]
      rw [e2]
      exact nd
    · obtain ⟨z, hz, ez⟩ := List.mem_map.mp hp
      refine .inr ⟨z, hz, ?_⟩
      rw [← ez]
      by_cases q : z.1 = k
      · rw [if_pos q]
      · rw [if_neg q]
theorem val_drop (kvs : List (Key × V)) (k j : Key) : valV (dropK kvs k) j = if j = k then none else valV kvs j := by
  induction kvs with
  | nil => by_cases h : j = k <;> simp [dropK, valV, h]
  | cons p r ih =>
    by_cases e : p.1 = k
    · rw [dropK_pos e, ih]
      by_cases h : j = k
      · rw [if_pos h, if_pos h]
      · rw [if_neg h, if_neg h, valV_neg fun z => h (z.symm.trans e)]
    · rw [dropK_neg e]
      by_cases h : p.1 = j
      · rw [valV_pos h, valV_pos h, if_neg fun z => e (h.trans z)]
      · rw [valV_neg h, valV_neg h, ih]
/-- of each root its key -/
structure KeysOk (tl : Addr) (H : Hp) (k1 : List (Key × V)) (st : Nt.Service) : Prop where
  nd : (k1.map (·.1)).Nodup
  low : ∀ p ∈ k1, ∃ r : Nat, r < 8 ∧ p.1 = Sum.inl (r : Int)
  no : ∀ r : Nat, st.key r = none → valV k1 (Sum.inl (r : Int)) = none
  yes : ∀ (r : Nat) (key : List UInt8), st.key r = some key → ∃ a, valV k1 (Sum.inl (r : Int)) = some (.ref a) ∧ RowAt H a key ∧ a ≠ tl ∧ key.length = 8
structure SvAt (CS tl : Addr) (H : Hp) (sv : Addr) (st : Nt.Service) : Prop where
  ok : SvOk st
  ex : ∃ dx d1 d2 d3 k1, H sv = some (.ins CS dx (sf (.ref d1) (.ref d2) (.ref d3))) ∧ H d1 = some (.dK k1) ∧ H d2 = some (.dT (goneD st.gone)) ∧ H d3 = some (.dT (cntD st.counts)) ∧ d2 ≠ d3 ∧ KeysOk tl H k1 st
/-- what a call of the service leaves as it is: all but the service and its dicts -/
def Fx (CS : Addr) : HO → Prop
  | .dK _ => False
  | .dT _ => False
  | .ins C _ _ => C ≠ CS
  | _ => True
def KeepS (CS : Addr) (H H' : Hp) : Prop := ∀ b o, H b = some o → Fx CS o → H' b = some o
theorem KeepS.of {CS : Addr} {H H' : Hp} (s : Same H H') : KeepS CS H H' := fun b o e _ => s b o e
theorem KeepS.trans {CS : Addr} {H H1 H2 : Hp} (a : KeepS CS H H1) (b : KeepS CS H1 H2) : KeepS CS H H2 := fun c o h f => b c o (a c o h f) f
theorem KeepS.over {CS : Addr} {H : Hp} {d : Addr} {u o : HO} (h : H d = some u) (f : ¬ Fx CS u) : KeepS CS H (upd H d o) := fun b v e fv => by
  rw [upd_ne fun z => ?_]
  · exact e
  · subst z
    rw [h] at e
    cases e
    exact f fv
/-- p is none of the lists that were there -/
def New (H : Hp) (p : Addr) : Prop := ∀ (b : Addr) (us : List V), H b = some (.lst us) → b ≠ p
structure KeepN (CS : Addr) (H H' : Hp) (p : Addr) : Prop where
  k : KeepS CS H H'
  n : New H p
theorem KeepN.of {CS : Addr} {H H' : Hp} {p : Addr} (s : SameN H H' p) : KeepN CS H H' p := ⟨KeepS.of s.s, fun b us e => ne_of_none e s.n⟩
theorem KeepN.up {CS : Addr} {H H1 H' : Hp} {p : Addr} (k : KeepS CS H H1) (np : H1 p = none) (s : Same H1 H') : KeepN CS H H' p := ⟨k.trans (KeepS.of s), fun b us e => ne_of_none (k _ _ e trivial) np⟩
theorem KeepN.trans {CS : Addr} {H H1 H' : Hp} {p : Addr} (k : KeepS CS H H1) (n : KeepN CS H1 H' p) : KeepN CS H H' p := ⟨k.trans n.k, fun b us e => n.n b us (k _ _ e trivial)⟩
theorem KeysOk.keep {CS tl : Addr} {H H' : Hp} {k1 : List (Key × V)} {st : Nt.Service} (h : KeysOk tl H k1 st) (s : KeepS CS H H') : KeysOk tl H' k1 st :=
  ⟨h.nd, h.low, h.no, fun r key e => by
    obtain ⟨a, h1, h2, h3, h4⟩ := h.yes r key e
    exact ⟨a, h1, s _ _ h2 trivial, h3, h4⟩⟩
theorem SvAt.same {CS tl : Addr} {H H' : Hp} {sv : Addr} {st : Nt.Service} (h : SvAt CS tl H sv st) (s : Same H H') : SvAt CS tl H' sv st := by
  obtain ⟨ok, dx, d1, d2, d3, k1, h1, h2, h3, h4, h5, h6⟩ := h
  exact ⟨ok, dx, d1, d2, d3, k1, s _ _ h1, s _ _ h2, s _ _ h3, s _ _ h4, h5, h6.keep (CS := CS) (KeepS.of s)⟩
theorem key_low {st : Nt.Service} (ok : SvOk st) {r : Nat} {key : List UInt8} (h : st.key r = some key) : r < 8 := by
  refine Decidable.byContradiction fun n => ?_
  unfold Nt.Service.key at h
  rw [List.getD_eq_getElem?_getD, List.getElem?_eq_none (by rw [ok.keys]; omega)] at h
  cases h
end NT
set_option Elab.async false
set_option linter.all false
set_option maxRecDepth 100000
set_option maxHeartbeats 2000000
namespace NT
open PySem PySem.Spec PyProof.Rows L2
theorem for_keysT {d : Addr} {od : Obj} {kvs : List (List Key × V)} {g : TG} {tb : TS} {D : Ends} {σ : L2.St} {H : Hp} (Pv : Nat → L2.St → Hp → Prop) (h0 : Pv 0 σ H) (hl : ∀ i σ H, i ≤ kvs.length → Pv i σ H → H d = some (.frz od (.dT kvs)))
    (hs : ∀ i k v q σ H, kvs[i]? = some (k, v) → H q = some (.tup (k.map kV)) → Pv i σ H → g (.ref q) σ H fun σ2 H2 => tb { D with nx := Pv (i + 1), ct := Pv (i + 1), bk := D.nx } σ2 H2) (hd : ∀ σ H, Pv kvs.length σ H → D.nx σ H) :
    ∃ W : Nat → Nat → L2.St → Hp → Prop, (∃ m, W 0 m σ H) ∧ ∀ i m σ H, W i m σ H →
      ((Itkt d od kvs).stop i H ∧ D.nx σ H) ∨ ((Itkt d od kvs).go i H ∧ ∃ N : L2.St → Hp → Prop, (∀ σ' H', N σ' H' → ∃ m', m' < m ∧ W (i + 1) m' σ' H') ∧ ∀ x H', (Itkt d od kvs).yld i H x H' → g x σ H' fun σ2 H2 => tb { D with nx := N, ct := N, bk := D.nx } σ2 H2) := by
  refine ⟨fun i m σ H => m = kvs.length - i ∧ i ≤ kvs.length ∧ Pv i σ H, ⟨kvs.length, by simp, Nat.zero_le _, h0⟩, ?_⟩
  rintro i m σ H ⟨rfl, hi, p⟩
  have q := hl i σ H hi p
  by_cases hlt : i < kvs.length
  · refine .inr ⟨⟨q, hlt⟩, Pv (i + 1), fun σ' H' p' => ⟨kvs.length - (i + 1), by omega, rfl, hlt, p'⟩, fun x H' y => ?_⟩
    obtain ⟨e, k, v, t, h1, h2, h3⟩ := y
    subst e
    subst h2
    exact hs i k v t σ _ h1 h3 p
  · have e : i = kvs.length := by omega
    subst e
    exact .inl ⟨⟨q, Nat.le_refl _⟩, hd σ H p⟩
def keepR (r : Int) (kv : List Key × V) : Bool := !decide (kv.1.head? = some (Sum.inl r))
theorem keepR_gk (x : Nat × Nat) (r : Nat) (v : V) : keepR (r : Int) (gk x, v) = (x.1 != r) := by
  unfold keepR
  show (!decide ((gk x).head? = some (Sum.inl (r : Int)))) = (x.1 != r)
  by_cases h : x.1 = r
  · rw [decide_eq_true (show (gk x).head? = some (Sum.inl (r : Int)) by unfold gk; rw [h]; rfl)]
    simp [h]
  · have h2 : ¬ (gk x).head? = some (Sum.inl (r : Int)) := fun z => h (Int.ofNat.inj (Sum.inl.inj (Option.some.inj z)))
    rw [decide_eq_false h2]
    simp [h]
theorem filt_gone (g : List (Nat × Nat)) (r : Nat) : (goneD g).filter (keepR (r : Int)) = goneD (g.filter fun (x : Nat × Nat) => x.1 != r) := by
  unfold goneD
  rw [List.filter_map]
  congr 1
  exact List.filter_congr fun x _ => keepR_gk x r _
theorem filt_cnt (c : List ((Nat × Nat) × Nat)) (r : Nat) : (cntD c).filter (keepR (r : Int)) = cntD (c.filter fun (x : (Nat × Nat) × Nat) => x.1.1 != r) := by
  unfold cntD
  rw [List.filter_map]
  congr 1
  exact List.filter_congr fun x _ => keepR_gk x.1 r _
def forgot (st : Nt.Service) (r : Nat) : Nt.Service := ⟨st.keys, st.gone.filter (fun (x : Nat × Nat) => x.1 != r), st.counts.filter fun (x : (Nat × Nat) × Nat) => x.1.1 != r⟩
theorem forgot_ok {st : Nt.Service} (ok : SvOk st) (r : Nat) : SvOk (forgot st r) :=
  ⟨ok.keys, Nat.le_trans (List.length_filter_le _ _) ok.gone, Nat.le_trans (List.length_filter_le _ _) ok.counts, ok.gnd.sublist List.filter_sublist, ok.nd.sublist (List.filter_sublist.map _), fun y hy => ok.pos y (List.mem_filter.mp hy).1⟩
theorem key_forgot (st : Nt.Service) (r q : Nat) : (forgot st r).key q = st.key q := rfl
theorem setKey_ok {st : Nt.Service} (ok : SvOk st) (r : Nat) (k : Option (List UInt8)) : SvOk (st.setKey r k) := by
  have h := forgot_ok ok r
  refine ⟨?_, h.gone, h.counts, h.gnd, h.nd, h.pos⟩
  show (st.keys.set r k).length = 8
  rw [List.length_set]
  exact ok.keys
theorem key_set {st : Nt.Service} (ok : SvOk st) {r : Nat} (hr : r < 8) (k : Option (List UInt8)) (q : Nat) : (st.setKey r k).key q = if q = r then k else st.key q := by
  show (st.keys.set r k).getD q none = _
  rw [List.getD_eq_getElem?_getD]
  by_cases h : q = r
  · subst h
    rw [if_pos rfl, List.getElem?_set_self (by rw [ok.keys]; exact hr)]
    rfl
  · rw [if_neg h, List.getElem?_set_ne fun z => h z.symm]
    show _ = st.keys.getD q none
    rw [List.getD_eq_getElem?_getD]
theorem nd_gone {g : List (Nat × Nat)} (h : g.Nodup) : ((goneD g).map (·.1)).Nodup := by
  unfold goneD
  rw [List.map_map]
  refine List.Pairwise.map _ (fun a b ne z => ne (gk_inj z)) h
theorem nd_cnt {c : List ((Nat × Nat) × Nat)} (h : (c.map (·.1)).Nodup) : ((cntD c).map (·.1)).Nodup := by
  have e : (cntD c).map (·.1) = (c.map (·.1)).map gk := by
    unfold cntD
    rw [List.map_map, List.map_map]
    rfl
  rw [e]
  exact List.Pairwise.map _ (fun a b ne z => ne (gk_inj z)) h
theorem val_at {kvs : List (List Key × V)} (nd : (kvs.map (·.1)).Nodup) {i : Nat} {k : List Key} {v : V} (h : kvs[i]? = some (k, v)) : valV kvs k = some v := by
  induction kvs generalizing i with
  | nil => simp at h
  | cons p r ih =>
    obtain ⟨n1, n2⟩ := List.nodup_cons.mp (show (p.1 :: r.map (·.1)).Nodup from nd)
    cases i with
    | zero =>
      have e : p = (k, v) := Option.some.inj h
      rw [valV_pos (by rw [e]), e]
    | succ i =>
      have h : r[i]? = some (k, v) := h
      rw [valV_neg (fun z => n1 (by rw [z]; exact List.mem_map.mpr ⟨(k, v), List.mem_of_getElem? h, rfl⟩)), ih n2 h]
theorem val_take {kvs : List (List Key × V)} (nd : (kvs.map (·.1)).Nodup) {i : Nat} {k : List Key} {v : V} (h : kvs[i]? = some (k, v)) (p : List Key × V → Bool) : valV ((kvs.take i).filter p) k = none := by
  cases e : valV ((kvs.take i).filter p) k with
  | none => rfl
  | some u =>
    exfalso
    obtain ⟨q, hq, eq⟩ := List.mem_map.mp (valV_in e)
    have hq := (List.mem_filter.mp hq).1
    obtain ⟨j, hj, ej⟩ := List.getElem_of_mem hq
    rw [List.length_take] at hj
    rw [List.getElem_take] at ej
    have a1 : (kvs.map (·.1))[j]? = some k := by rw [List.getElem?_map, List.getElem?_eq_getElem (by omega), ej, ← eq]; rfl
    have a2 : (kvs.map (·.1))[i]? = some k := by rw [List.getElem?_map, h]; rfl
    have := nd_ix nd a1 a2
    omega
/-! ### promises -/
def spSvInit (CS : Addr) : Sp := fun vs H Q _ => ∃ p dx, vs = [.ref p] ∧ H p = some (.ins CS dx []) ∧ ∀ (H' : Hp) (d1 d2 d3 : Addr), d2 ≠ d3 → H' p = some (.ins CS dx (sf (.ref d1) (.ref d2) (.ref d3))) → H' d1 = some (.dK []) → H' d2 = some (.dT []) → H' d3 = some (.dT []) → (∀ b o, H b = some o → b ≠ p → H' b = some o) → Q .non H'
def spBegin (CS : Addr) : Sp := fun vs H Q _ => ∃ tl sv st, vs = [.ref sv] ∧ SvAt CS tl H sv st ∧ ∀ (H' : Hp) (p : Addr), KeepN CS H H' p → SvAt CS tl H' sv Nt.begun → AnsAt H' p (NtDesk.says 0) → Q (.ref p) H'
def spWithout : Sp := fun vs H Q _ => ∃ (d : Addr) (kvs : List (List Key × V)) (r : Int), vs = [.ref d, .int r] ∧ H d = some (.dT kvs) ∧ (∀ kv ∈ kvs, ∃ x, kv.1 = gk x) ∧ (kvs.map (·.1)).Nodup ∧ kvs.length ≤ 16 ∧
  ∀ (H' : Hp) (p : Addr), Same H H' → H p = none → H' p = some (.dT (kvs.filter (keepR r))) → Q (.ref p) H'
def spForget (CS : Addr) : Sp := fun vs H Q _ => ∃ (tl sv : Addr) (st : Nt.Service) (r : Nat), vs = [.ref sv, .int (r : Int)] ∧ SvAt CS tl H sv st ∧ ∀ H' : Hp, KeepS CS H H' → SvAt CS tl H' sv (forgot st r) → Q .non H'
theorem keys_none {tl : Addr} {H : Hp} : KeysOk tl H [] Nt.begun := by
  have no : ∀ r, Nt.begun.key r = none := fun r => by
    show (List.replicate 8 (none : Option (List UInt8))).getD r none = none
    rw [List.getD_eq_getElem?_getD, List.getElem?_replicate]
    by_cases h : r < 8
    · rw [if_pos h]
      rfl
    · rw [if_neg h]
      rfl
  refine ⟨List.nodup_nil, fun p hp => by simp at hp, fun r _ => rfl, fun r key e => ?_⟩
  rw [no r] at e
  cases e
theorem begun_ok : SvOk Nt.begun := ⟨rfl, by decide, by decide, List.nodup_nil, List.nodup_nil, fun y hy => by cases hy⟩
section
variable {P : Program} {w : World} {K : PySem.W.Frag} {mg : Str → Option Value} {base : Heap} {CC CT CQ CS CR : Addr}
theorem g_Service (T : Txt K mg CC CT CQ CS CR) : Gc P w K mg base 1 CS ["self"] (spSvInit CS) := by
  refine T.d_Service_init.gc sc_Service_init (fun vs H Q E h => ?_) (fun f cdv A outer s H vs Q E hr h => ?_)
  · obtain ⟨p, dx, rfl, _⟩ := h
    rfl
  · obtain ⟨p, dx, rfl, hp, q⟩ := h
    refine ⟨_, pss_cons (ps_fld (pv 0) pe_dnewK rfl) (pss_cons (ps_fld (pv 0) pe_dnewT rfl) (pss_one (ps_fld (pv 0) pe_dnewT rfl))), ?_⟩
    intro d1 n1
    have e1 : p ≠ d1 := ne_of_none hp n1
    refine ⟨_, rfl, p, CS, dx, _, rfl, (by rw [upd_ne e1]; exact hp), T.cl_Service, T.n_Service_root_keys, (by decide), ?_⟩
    intro d2 n2
    have e2 : p ≠ d2 := ne_of_none upd_same n2
    have e12 : d1 ≠ d2 := ne_of_none (show upd _ _ _ d1 = some (.dK []) by rw [upd_ne e1.symm, upd_same]) n2
    refine ⟨_, rfl, p, CS, dx, _, rfl, (by rw [upd_ne e2, upd_same]), T.cl_Service, T.n_Service_revocations, (by show 1 < 1000; decide), ?_⟩
    intro d3 n3
    have e3 : p ≠ d3 := ne_of_none upd_same n3
    have e23 : d2 ≠ d3 := ne_of_none (show upd _ _ _ d2 = some (.dT []) by rw [upd_ne e2.symm, upd_same]) n3
    have e13 : d1 ≠ d3 := ne_of_none (show upd _ _ _ d1 = some (.dK []) by rw [upd_ne e1.symm, upd_ne e12, upd_ne e1.symm, upd_same]) n3
    refine ⟨_, rfl, p, CS, dx, _, rfl, (by rw [upd_ne e3, upd_same]), T.cl_Service, T.n_Service_counts, (by show 2 < 1000; decide), ?_⟩
    refine q _ d1 d2 d3 e23 upd_same ?_ ?_ ?_ fun b o e hb => ?_
    · rw [upd_ne e1.symm, upd_ne e13, upd_ne e1.symm, upd_ne e12, upd_ne e1.symm, upd_same]
    · rw [upd_ne e2.symm, upd_ne e23, upd_ne e2.symm, upd_same]
    · rw [upd_ne e3.symm, upd_same]
    · have b1 : b ≠ d1 := ne_of_none e n1
      have b2 : b ≠ d2 := ne_of_none (show upd _ _ _ b = some o by rw [upd_ne hb, upd_ne b1]; exact e) n2
      have b3 : b ≠ d3 := ne_of_none (show upd _ _ _ b = some o by rw [upd_ne hb, upd_ne b2, upd_ne hb, upd_ne b1]; exact e) n3
      rw [upd_ne hb, upd_ne b3, upd_ne hb, upd_ne b2, upd_ne hb, upd_ne b1]
      exact e
theorem g_begin (T : Txt K mg CC CT CQ CS CR) : Gm P w K mg base 1 CS "begin_anew" ["self"] (spBegin CS) := by
  refine T.d_Service_begin_anew.gm sc_Service_begin_anew (fun vs H Q E h => ?_) (fun f cdv A outer s H vs Q E hr h => ?_)
  · obtain ⟨tl, sv, st, rfl, _⟩ := h
    rfl
  · obtain ⟨tl, p, st, rfl, ⟨ok, dx, c1, c2, c3, k1, hp, _⟩, q⟩ := h
    refine ⟨_, pss_cons (ps_fld (pv 0) pe_dnewK rfl) (pss_cons (ps_fld (pv 0) pe_dnewT rfl) (pss_cons (ps_fld (pv 0) pe_dnewT rfl) (pss_one (ps_ret (pe_lst (pa_cons pe_int pa_nil)))))), ?_⟩
    intro d1 n1
    have e1 : p ≠ d1 := ne_of_none hp n1
    refine ⟨_, rfl, p, CS, dx, _, rfl, (by rw [upd_ne e1]; exact hp), T.cl_Service, T.n_Service_root_keys, (by show 3 < 1000; decide), ?_⟩
    intro d2 n2
    have e2 : p ≠ d2 := ne_of_none upd_same n2
    have e12 : d1 ≠ d2 := ne_of_none (show upd _ _ _ d1 = some (.dK []) by rw [upd_ne e1.symm, upd_same]) n2
    refine ⟨_, rfl, p, CS, dx, _, rfl, (by rw [upd_ne e2, upd_same]), T.cl_Service, T.n_Service_revocations, (by show 3 < 1000; decide), ?_⟩
    intro d3 n3
    have e3 : p ≠ d3 := ne_of_none upd_same n3
    have e23 : d2 ≠ d3 := ne_of_none (show upd _ _ _ d2 = some (.dT []) by rw [upd_ne e2.symm, upd_same]) n3
    have e13 : d1 ≠ d3 := ne_of_none (show upd _ _ _ d1 = some (.dK []) by rw [upd_ne e1.symm, upd_ne e12, upd_ne e1.symm, upd_same]) n3
    refine ⟨_, rfl, p, CS, dx, _, rfl, (by rw [upd_ne e3, upd_same]), T.cl_Service, T.n_Service_counts, (by show 3 < 1000; decide), (by show 1 ≤ sizeLine; decide), fun l nl => ?_⟩
    have sl := Same.new (o := .lst [.int 0]) nl
    refine q _ l (KeepN.up (fun b o e fx => ?_) nl sl) ⟨begun_ok, dx, d1, d2, d3, [], sl _ _ upd_same, sl _ _ ?_, sl _ _ ?_, sl _ _ ?_, e23, keys_none⟩ upd_same
    · have hb : b ≠ p := fun z => by
        subst z
        rw [hp] at e
        cases e
        exact fx rfl
      have b1 : b ≠ d1 := ne_of_none e n1
      have b2 : b ≠ d2 := ne_of_none (show upd _ _ _ b = some o by rw [upd_ne hb, upd_ne b1]; exact e) n2
      have b3 : b ≠ d3 := ne_of_none (show upd _ _ _ b = some o by rw [upd_ne hb, upd_ne b2, upd_ne hb, upd_ne b1]; exact e) n3
      rw [upd_ne hb, upd_ne b3, upd_ne hb, upd_ne b2, upd_ne hb, upd_ne b1]
      exact e
    · rw [upd_ne e1.symm, upd_ne e13, upd_ne e1.symm, upd_ne e12, upd_ne e1.symm, upd_same]
    · rw [upd_ne e2.symm, upd_ne e23, upd_ne e2.symm, upd_same]
      rfl
    · rw [upd_ne e3.symm, upd_same]
      rfl
theorem g_without (T : Txt K mg CC CT CQ CS CR) : Gf P w K mg base 1 "without_root" ["entries", "root"] spWithout := by
  refine T.d_without_root.gf sc_without_root (fun vs H Q E h => ?_) (fun f cdv A outer s H vs Q E hr h => ?_)
  · obtain ⟨d, kvs, r, rfl, _⟩ := h
    rfl
  · obtain ⟨d, kvs, r, rfl, hd, hk, nd, few, q⟩ := h
    refine ⟨_, pss_cons (ps_set (i := 2) sc_without_root.nd rfl (Or.inl rfl) pe_dnewT)
      (pss_cons (ps_lock (ps_for PassesOwn.never rfl (pi_keys (pv 0)) (pg_name (i := 3) sc_without_root.nd rfl (Or.inl rfl))
        (pss_one (ps_if (pt_cmpR op_ne (pe_ix ix_tup (pv 3) pe_int (fun _ _ => rfl)) (pv 1) (nomark _)) (pss_one (ps_dput (hu_of hr) (pv 2) (pv 3) (pe_dget (hu_of hr) (pv 0) (pv 3) (fun _ _ => rfl)) rfl)) pss_nil))))
      (pss_one (ps_ret (pv 2)))), ?_⟩
    intro p np
    have npd : d ≠ p := ne_of_none hd np
    refine ⟨d, .dT kvs, (by rw [upd_ne npd]; exact hd), trivial, fun od => ?_⟩
    refine ⟨_, rfl, d, od, rfl, .inr ⟨kvs, upd_same, for_keysT (fun i σ H' => ∃ v : Option V, σ = [some (.ref d), some (.int r), some (.ref p), v] ∧ H' d = some (.frz od (.dT kvs)) ∧ H' p = some (.dT ((kvs.take i).filter (keepR r))) ∧ ∀ b o, H b = some o → b ≠ d → H' b = some o) ?_ (fun i σ H' _ ⟨_, _, e, _⟩ => e) ?_ ?_⟩⟩
    · refine ⟨none, rfl, upd_same, ?_, fun b o e hb => ?_⟩
      · rw [upd_ne npd.symm, upd_same]
        rfl
      · rw [upd_ne hb, upd_ne (ne_of_none e np)]
        exact e
    · rintro i k v t σ H' hi ht ⟨v0, rfl, h1, h2, h3⟩
      obtain ⟨x, hx⟩ := hk _ (List.mem_of_getElem? hi)
      have hx : k = gk x := hx
      subst hx
      have hsnoc := take_snoc hi
      have kr : keepR r (gk x, v) = !decide (V.int (x.1 : Int) = V.int r) := by
        unfold keepR
        show (!decide ((gk x).head? = some (Sum.inl r))) = _
        by_cases z : (x.1 : Int) = r
        · rw [decide_eq_true (show (gk x).head? = some (Sum.inl r) by unfold gk; rw [z]; rfl), decide_eq_true (by rw [z])]
        · rw [decide_eq_false (show ¬ (gk x).head? = some (Sum.inl r) from fun y => z (Sum.inl.inj (Option.some.inj y))), decide_eq_false fun y => z (V.int.inj y)]
      refine ⟨_, rfl, t, _, _, _, rfl, rfl, SqT.of ht, at_of (j := 0) rfl rfl, _, rfl, rfl, _, rfl, ite2 (fun z => ?_) (fun z => ?_)⟩
      · refine ⟨_, rfl, _, rfl, d, v, rfl, .inr ⟨kvs, gk x, t, .inr ⟨od, h1⟩, rfl, ht, (val_at nd hi).symm⟩, _, rfl, _, rfl, p, _, rfl, DPut.t h2 ht ?_, ?_⟩
        · exact small1000 (Nat.le_trans (List.length_filter_le _ _) (Nat.le_trans (List.length_take_le' _ _) (by omega)))
        · refine ⟨some (.ref t), rfl, by rw [upd_ne npd]; exact h1, ?_, fun b o e hb => ?_⟩
          · rw [upd_same, hsnoc, List.filter_append, putK_new _ (val_take nd hi _)]
            congr 3
            rw [List.filter_cons, if_pos (by rw [kr]; exact z), List.filter_nil]
          · rw [upd_ne (ne_of_none e np)]
            exact h3 b o e hb
      · refine ⟨some (.ref t), rfl, h1, ?_, h3⟩
        rw [h2, hsnoc, List.filter_append]
        congr 2
        rw [List.filter_cons, if_neg (by rw [kr]; exact z), List.filter_nil, List.append_nil]
    · rintro σ H' ⟨v0, rfl, h1, h2, h3⟩
      refine ⟨h1, _, rfl, ?_⟩
      rw [List.take_length] at h2
      refine q _ p (fun b o e => ?_) np (by rw [upd_ne npd.symm]; exact h2)
      by_cases hb : b = d
      · subst hb
        rw [hd] at e
        cases e
        exact upd_same
      · rw [upd_ne hb]
        exact h3 b o e hb
theorem g_forget (T : Txt K mg CC CT CQ CS CR) : Gm P w K mg base 2 CS "forget_serials" ["self", "root"] (spForget CS) := by
  refine T.d_Service_forget_serials.gm sc_Service_forget_serials (fun vs H Q E h => ?_) (fun f cdv A outer s H vs Q E hr h => ?_)
  · obtain ⟨tl, sv, st, r, rfl, _⟩ := h
    rfl
  · obtain ⟨tl, sv, st, r, rfl, ⟨ok, dx, d1, d2, d3, k1, hp, h1, h2, h3, n23, hk⟩, q⟩ := h
    refine ⟨_, pss_cons (ps_fld (pv 0) (pf (g_without T) hr (pa_cons (pe_fld (pv 0) rfl) (pa_cons (pv 1) pa_nil))) rfl) (pss_one (ps_fld (pv 0) (pf (g_without T) hr (pa_cons (pe_fld (pv 0) rfl) (pa_cons (pv 1) pa_nil))) rfl)), ?_⟩
    refine ⟨_, rfl, sv, CS, dx, _, _, rfl, hp, T.cl_Service, T.n_Service_revocations, rfl, _, rfl, d2, _, _, rfl, h2, fun kv m => ?_, nd_gone ok.gnd, ?_, fun H1 p1 s1 n1 e1 => ?_⟩
    · obtain ⟨x, _, ex⟩ := List.mem_map.mp (show kv ∈ st.gone.map _ from m)
      exact ⟨x, by rw [← ex]⟩
    · unfold goneD
      rw [List.length_map]
      exact ok.gone
    · have nps : sv ≠ p1 := ne_of_none hp n1
      have nd1 : d1 ≠ sv := ne_of h1 hp (by intro z; cases z)
      have nd3 : d3 ≠ sv := ne_of h3 hp (by intro z; cases z)
      refine ⟨_, rfl, sv, CS, dx, _, rfl, s1 _ _ hp, T.cl_Service, T.n_Service_revocations, (by show 3 < 1000; decide), ?_⟩
      refine ⟨_, rfl, sv, CS, dx, _, _, rfl, upd_same, T.cl_Service, T.n_Service_counts, rfl, _, rfl, d3, _, _, rfl, (by rw [upd_ne nd3]; exact s1 _ _ h3), fun kv m => ?_, nd_cnt ok.nd, ?_, fun H2 p2 s2 n2 e2 => ?_⟩
      · obtain ⟨x, _, ex⟩ := List.mem_map.mp (show kv ∈ st.counts.map _ from m)
        exact ⟨x.1, by rw [← ex]⟩
      · unfold cntD
        rw [List.length_map]
        exact ok.counts
      · have hp2 := s2 _ _ (upd_same (H := H1) (a := sv))
        refine ⟨_, rfl, sv, CS, dx, _, rfl, hp2, T.cl_Service, T.n_Service_counts, (by show 3 < 1000; decide), ?_⟩
        have np1 : p1 ≠ sv := nps.symm
        have e1' : H2 p1 = some (.dT ((goneD st.gone).filter (keepR (r : Int)))) := s2 _ _ (by rw [upd_ne np1]; exact e1)
        have np2 : p2 ≠ sv := ne_of e2 hp2 (by intro z; cases z)
        have n12 : p1 ≠ p2 := ne_of_none (show upd _ _ _ p1 = some _ by rw [upd_ne np1]; exact e1) n2
        have k : KeepS CS H (upd H2 sv (.ins CS dx (sf (.ref d1) (.ref p1) (.ref p2)))) := fun b o e fx => by
          have hb : b ≠ sv := fun z => by
            subst z
            rw [hp] at e
            cases e
            exact fx rfl
          rw [upd_ne hb]
          exact s2 _ _ (by rw [upd_ne hb]; exact s1 _ _ e)
        refine q _ k ⟨forgot_ok ok r, dx, d1, p1, p2, k1, upd_same, ?_, ?_, ?_, n12, ?_⟩
        · rw [upd_ne nd1]
          exact s2 _ _ (by rw [upd_ne nd1]; exact s1 _ _ h1)
        · rw [upd_ne np1, e1', filt_gone]
          rfl
        · rw [upd_ne np2, e2, filt_cnt]
          rfl
        · obtain ⟨a1, a2, a3, a4⟩ := hk.keep k
          exact ⟨a1, a2, a3, a4⟩
end
end NT
set_option Elab.async false
set_option linter.all false
set_option maxRecDepth 100000
set_option maxHeartbeats 2000000
namespace NT
open PySem PySem.Spec PyProof.Rows L2
theorem inl_ne {x r : Nat} (h : ¬ x = r) : ¬ (Sum.inl (x : Int) : Key) = Sum.inl (r : Int) := fun y => h (Int.ofNat.inj (Sum.inl.inj y))
/-- behind a call of the service: what the document's step says -/
def Post (CS tl : Addr) (H : Hp) (sv : Addr) (st : Nt.Service) (c : NtDesk.Call) (Q : VK) : Prop :=
  ∀ (H' : Hp) (p : Addr), KeepN CS H H' p → SvAt CS tl H' sv (NtDesk.step st c).1 → AnsAt H' p (NtDesk.step st c).2 → Q (.ref p) H'
theorem Post.same {CS tl : Addr} {H H' : Hp} {sv p : Addr} {st : Nt.Service} {c : NtDesk.Call} {a : NtDesk.Answer} {Q : VK} (P : Post CS tl H sv st c Q) (hs : SvAt CS tl H sv st) (e : NtDesk.step st c = (st, a)) (s : SameN H H' p) (ha : AnsAt H' p a) : Q (.ref p) H' :=
  P H' p (KeepN.of s) (by rw [e]; exact hs.same s.s) (by rw [e]; exact ha)
def spSetKey (CS : Addr) : Sp := fun vs H Q _ => ∃ (tl sv ka : Addr) (st : Nt.Service) (r : Nat) (key : List UInt8), vs = [.ref sv, .int (r : Int), .ref ka] ∧ SvAt CS tl H sv st ∧ RowAt H ka key ∧ ka ≠ tl ∧ Post CS tl H sv st (.root r key) Q
def spTakeKey (CS : Addr) : Sp := fun vs H Q _ => ∃ (tl sv : Addr) (st : Nt.Service) (r : Nat), vs = [.ref sv, .int (r : Int)] ∧ SvAt CS tl H sv st ∧ Post CS tl H sv st (.unroot r) Q
def spIssue (CS : Addr) : Sp := fun vs H Q _ => ∃ (tl sv : Addr) (st : Nt.Service) (r h l : Nat), vs = [.ref sv, .int (r : Int), .int (h : Int), .int (l : Int)] ∧ SvAt CS tl H sv st ∧ h < 4294967296 ∧ l < 4294967296 ∧ Post CS tl H sv st (.issue r h l) Q
def spRevoke (CS : Addr) : Sp := fun vs H Q _ => ∃ (tl sv : Addr) (st : Nt.Service) (r h l : Nat), vs = [.ref sv, .int (r : Int), .int (h : Int), .int (l : Int)] ∧ SvAt CS tl H sv st ∧ Post CS tl H sv st (.revoke r h l) Q
def spUses (CS : Addr) : Sp := fun vs H Q _ => ∃ (tl sv : Addr) (st : Nt.Service) (r h l : Nat), vs = [.ref sv, .int (r : Int), .int (h : Int), .int (l : Int)] ∧ SvAt CS tl H sv st ∧ Post CS tl H sv st (.uses r h l) Q
section
variable {P : Program} {w : World} {K : PySem.W.Frag} {mg : Str → Option Value} {base : Heap} {CC CT CQ CS CR : Addr}
theorem KeysOk.few {tl : Addr} {H : Hp} {k1 : List (Key × V)} {st : Nt.Service} (h : KeysOk tl H k1 st) : k1.length ≤ 8 := few_keys 8 k1 h.nd h.low
theorem g_setkey (T : Txt K mg CC CT CQ CS CR) : Gm P w K mg base 3 CS "set_key" ["self", "root", "key"] (spSetKey CS) := by
  refine T.d_Service_set_key.gm sc_Service_set_key (fun vs H Q E h => ?_) (fun f cdv A outer s H vs Q E hr h => ?_)
  · obtain ⟨tl, sv, ka, st, r, key, rfl, _⟩ := h
    rfl
  · obtain ⟨tl, sv, ka, st, r, key, rfl, hS, hka, ntl, q⟩ := h
    obtain ⟨ok, dx, d1, d2, d3, k1, hp, h1, h2, h3, n23, hk⟩ := id hS
    refine ⟨_, pss_cons (ps_if (pw_or (pt_cmpR op_gt (pv 1) (pk T.c_HIGHEST_ROOT) (nomark _)) (pw_or1 (pt_cmpR op_ne (plen T.b_len (pv 2)) (pk T.c_KEY_LENGTH) (nomark _)))).pt (pss_one (ps_ret (pe_lst (pa_cons (pe_un un_neg pe_int) pa_nil)))) pss_nil)
      (pss_cons (ps_expr (pm (g_forget T) hr T.cl_Service (pv 0) (pa_cons (pv 1) pa_nil)))
      (pss_cons (ps_dput (hu_of hr) (pe_fld (pv 0) rfl) (pv 1) (pv 2) rfl)
      (pss_one (ps_ret (pe_lst (pa_cons pe_int pa_nil)))))), ?_⟩
    have bad : (8 ≤ r ∨ key.length ≠ 8) → ∀ p, H p = none → Q (.ref p) (upd H p (.lst [.int (-1)])) := fun z p hp => by
      refine q.same hS ?_ (SameN.new hp) (a := NtDesk.says (-1)) upd_same
      show (if _ then _ else _) = _
      rw [if_pos (show Nt.ROOTS ≤ r ∨ key.length ≠ Nt.KEY from z)]
    refine ⟨_, rfl, _, _, rfl, rfl, _, rfl, ite2 (fun z => ?_) (fun z => ?_)⟩
    · have z := of_decide_eq_true z
      exact iteT ⟨_, rfl, (by show 1 ≤ sizeLine; decide), bad (.inl (by omega))⟩
    · have z : ¬ (7 : Int) < (r : Int) := fun y => z (decide_eq_true y)
      refine ⟨_, rfl, ka, _, rfl, .inl (SqL.of hka), rfl, _, rfl, ite2 (fun y => ?_) (fun y => ?_)⟩
      · refine ⟨_, rfl, (by show 1 ≤ sizeLine; decide), bad (.inr fun x => ?_)⟩
        rw [decide_eq_true (show V.int ((bv key).length : Int) = V.int 8 by rw [bv_len, x]; rfl)] at y
        exact absurd y (by decide)
      · have kl : key.length = 8 := by
          by_cases x : V.int ((bv key).length : Int) = V.int 8
          · have x := V.int.inj x
            rw [bv_len] at x
            omega
          · rw [decide_eq_false x] at y
            exact absurd rfl y
        have est : NtDesk.step st (.root r key) = (st.setKey r (some key), NtDesk.says 0) := by
          show (if _ then _ else _) = _
          rw [if_neg (show ¬ (Nt.ROOTS ≤ r ∨ key.length ≠ Nt.KEY) from fun x => by
            rcases x with x | x
            · have x : 8 ≤ r := x
              omega
            · exact x kl)]
        refine ⟨_, rfl, sv, dx, _, rfl, hp, rfl, _, rfl, tl, sv, st, r, rfl, hS, fun H1 k S1 => ?_⟩
        obtain ⟨ok1, dx1, e1, e2, e3, j1, hp1, g1, g2, g3, m23, hj⟩ := S1
        refine ⟨_, rfl, _, rfl, sv, CS, dx1, _, _, rfl, hp1, T.cl_Service, T.n_Service_root_keys, rfl, _, rfl, e1, _, rfl, DPut.k (k := Sum.inl (r : Int)) g1 (small1000 (by have := hj.few; omega)), (by show 1 ≤ sizeLine; decide), fun p np => ?_⟩
        have s3 := Same.new (o := .lst [.int 0]) np
        have k2 : KeepS CS H1 (upd H1 e1 (.dK (putK j1 (Sum.inl (r : Int)) (.ref ka)))) := KeepS.over g1 (fun x => x)
        have k3 := (k.trans k2).trans (KeepS.of s3)
        have o1 : sv ≠ e1 := ne_of hp1 g1 (by intro x; cases x)
        have o2 : e2 ≠ e1 := ne_of g2 g1 (by intro x; cases x)
        have o3 : e3 ≠ e1 := ne_of g3 g1 (by intro x; cases x)
        refine q _ p (KeepN.up (k.trans k2) np s3) ?_ (by rw [est]; exact upd_same)
        rw [est]
        refine ⟨setKey_ok ok r _, dx1, e1, e2, e3, _, s3 _ _ (by rw [upd_ne o1]; exact hp1), s3 _ _ upd_same, s3 _ _ (by rw [upd_ne o2]; exact g2), s3 _ _ (by rw [upd_ne o3]; exact g3), m23, ?_⟩
        have hj3 := hj.keep (k2.trans (KeepS.of (CS := CS) s3))
        obtain ⟨b1, b2⟩ := putK_keys (k := Sum.inl (r : Int)) (v := V.ref ka) hj.nd
        refine ⟨b1, fun x hx => ?_, fun x ex => ?_, fun x kx ex => ?_⟩
        · rcases b2 x hx with y | ⟨y, hy, ey⟩
          · exact ⟨r, by omega, y⟩
          · obtain ⟨r0, hr0, er0⟩ := hj.low y hy
            exact ⟨r0, hr0, by rw [← ey, er0]⟩
        · rw [key_set ok (by omega)] at ex
          by_cases exr : x = r
          · rw [if_pos exr] at ex
            cases ex
          · rw [if_neg exr] at ex
            rw [valV_put, if_neg (inl_ne exr)]
            exact hj.no x ex
        · rw [key_set ok (by omega)] at ex
          by_cases exr : x = r
          · rw [if_pos exr] at ex
            cases ex
            refine ⟨ka, by rw [valV_put, exr, if_pos rfl], k3 _ _ hka trivial, ntl, kl⟩
          · rw [if_neg exr] at ex
            rw [valV_put, if_neg (inl_ne exr)]
            exact hj3.yes x kx ex
theorem g_takekey (T : Txt K mg CC CT CQ CS CR) : Gm P w K mg base 3 CS "take_key" ["self", "root"] (spTakeKey CS) := by
  refine T.d_Service_take_key.gm sc_Service_take_key (fun vs H Q E h => ?_) (fun f cdv A outer s H vs Q E hr h => ?_)
  · obtain ⟨tl, sv, st, r, rfl, _⟩ := h
    rfl
  · obtain ⟨tl, sv, st, r, rfl, hS, q⟩ := h
    obtain ⟨ok, dx, d1, d2, d3, k1, hp, h1, h2, h3, n23, hk⟩ := id hS
    refine ⟨_, pss_cons (ps_if (pt_cmpR op_gt (pv 1) (pk T.c_HIGHEST_ROOT) (nomark _)) (pss_one (ps_ret (pe_lst (pa_cons (pe_un un_neg pe_int) pa_nil)))) pss_nil)
      (pss_cons (ps_expr (pm (g_forget T) hr T.cl_Service (pv 0) (pa_cons (pv 1) pa_nil)))
      (pss_cons (ps_expr (pe_dpop2 (pe_fld (pv 0) rfl) (pv 1) pe_non ⟨rfl, rfl, rfl, rfl⟩))
      (pss_one (ps_ret (pe_lst (pa_cons pe_int pa_nil)))))), ?_⟩
    refine ⟨_, rfl, _, _, rfl, rfl, _, rfl, ite2 (fun z => ?_) (fun z => ?_)⟩
    · have z := of_decide_eq_true z
      refine ⟨_, rfl, (by show 1 ≤ sizeLine; decide), fun p hp => ?_⟩
      refine q.same hS ?_ (SameN.new hp) (a := NtDesk.says (-1)) upd_same
      show (if _ then _ else _) = _
      rw [if_pos (show Nt.ROOTS ≤ r from (by omega : 8 ≤ r))]
    · have z : ¬ (7 : Int) < (r : Int) := fun y => z (decide_eq_true y)
      have est : NtDesk.step st (.unroot r) = (st.setKey r none, NtDesk.says 0) := by
        show (if _ then _ else _) = _
        rw [if_neg (show ¬ Nt.ROOTS ≤ r from (by omega : ¬ 8 ≤ r))]
      refine ⟨_, rfl, sv, dx, _, rfl, hp, rfl, _, rfl, tl, sv, st, r, rfl, hS, fun H1 k S1 => ?_⟩
      obtain ⟨ok1, dx1, e1, e2, e3, j1, hp1, g1, g2, g3, m23, hj⟩ := S1
      have fin : ∀ H2, KeepS CS H1 H2 → (∀ b o, H1 b = some o → b ≠ e1 → H2 b = some o) → (∃ j2, H2 e1 = some (.dK j2) ∧ (j2 = j1 ∧ valV j1 (Sum.inl (r : Int)) = none ∨ j2 = dropK j1 (Sum.inl (r : Int)))) → ∀ p, H2 p = none → Q (.ref p) (upd H2 p (.lst [.int 0])) := by
        rintro H2 kk fr ⟨j2, gj, ej⟩ p np
        have s3 := Same.new (o := .lst [.int 0]) np
        have o1 : sv ≠ e1 := ne_of hp1 g1 (by intro x; cases x)
        have o2 : e2 ≠ e1 := ne_of g2 g1 (by intro x; cases x)
        have o3 : e3 ≠ e1 := ne_of g3 g1 (by intro x; cases x)
        refine q _ p (KeepN.up (k.trans kk) np s3) ?_ (by rw [est]; exact upd_same)
        rw [est]
        refine ⟨setKey_ok ok r _, dx1, e1, e2, e3, j2, s3 _ _ (fr _ _ hp1 o1), s3 _ _ gj, s3 _ _ (fr _ _ g2 o2), s3 _ _ (fr _ _ g3 o3), m23, ?_⟩
        have hj3 := hj.keep (kk.trans (KeepS.of (CS := CS) s3))
        have vj : ∀ x : Nat, valV j2 (Sum.inl (x : Int)) = if x = r then none else valV j1 (Sum.inl (x : Int)) := fun x => by
          rcases ej with ⟨rfl, e0⟩ | rfl
          · by_cases exr : x = r
            · rw [if_pos exr, exr]
              exact e0
            · rw [if_neg exr]
          · rw [val_drop]
            by_cases exr : x = r
            · rw [if_pos exr, if_pos (by rw [exr])]
            · rw [if_neg exr, if_neg (inl_ne exr)]
        refine ⟨?_, fun x hx => ?_, fun x ex => ?_, fun x kx ex => ?_⟩
        · rcases ej with ⟨rfl, _⟩ | rfl
          · exact hj.nd
          · exact nd_dropK hj.nd
        · rcases ej with ⟨rfl, _⟩ | rfl
          · exact hj.low x hx
          · exact hj.low x (dropK_mem hx)
        · rw [vj]
          rw [key_set ok (by omega)] at ex
          by_cases exr : x = r
          · rw [if_pos exr]
          · rw [if_neg exr] at ex ⊢
            exact hj.no x ex
        · rw [vj]
          rw [key_set ok (by omega)] at ex
          by_cases exr : x = r
          · rw [if_pos exr] at ex
            cases ex
          · rw [if_neg exr] at ex ⊢
            exact hj3.yes x kx ex
      refine ⟨_, rfl, sv, CS, dx1, _, _, rfl, hp1, T.cl_Service, T.n_Service_root_keys, rfl, e1, rfl, .inl ⟨j1, .inl g1⟩, _, rfl, j1, Sum.inl (r : Int), g1, rfl, fun v ev => ⟨(by show 1 ≤ sizeLine; decide), fun p np => ?_⟩, fun ev => ⟨(by show 1 ≤ sizeLine; decide), fun p np => ?_⟩⟩
      · exact fin _ (KeepS.over g1 (fun x => x)) (fun b o e hb => by rw [upd_ne hb]; exact e) ⟨_, upd_same, .inr rfl⟩ p np
      · exact fin _ (fun b o e _ => e) (fun b o e _ => e) ⟨j1, g1, .inl ⟨rfl, ev⟩⟩ p np
end
end NT
set_option Elab.async false
set_option linter.all false
set_option maxRecDepth 100000
set_option maxHeartbeats 2000000
namespace NT
open PySem PySem.Spec PyProof.Rows L2
def spSeal (CC CT CS : Addr) : Sp := fun vs H Q _ => ∃ (tl sv tp : Addr) (st : Nt.Service) (t : Nt.Token) (key : List UInt8), vs = [.ref sv, .ref tp] ∧ SvAt CS tl H sv st ∧ TokAt CC CT H tp t ∧ TokOk t ∧ st.key t.root = some key ∧ ∀ H', Same H H' → Q (.bl (decide (t.seal_ = Nt.rightSeal key t))) H'
def spCountUse (CS : Addr) : Sp := fun vs H Q _ => ∃ (tl sv pa : Addr) (st : Nt.Service) (x : Nat × Nat), vs = [.ref sv, .ref pa] ∧ SvAt CS tl H sv st ∧ H pa = some (.tup [.int (x.1 : Int), .int (x.2 : Int)]) ∧
  (st.count x = 0 ∧ 16 ≤ st.counts.length → ∀ H' p, SameN H H' p → H' p = some (.lst [.int 6]) → Q (.ref p) H') ∧
  (¬ (st.count x = 0 ∧ 16 ≤ st.counts.length) → ∀ H' p, KeepN CS H H' p → SvAt CS tl H' sv (st.counted x) → H' p = some (.lst [.int 0]) → Q (.ref p) H')
def spSealRight (CS : Addr) : Sp := fun vs H Q _ => ∃ (tl sv a : Addr) (st : Nt.Service) (b : List UInt8), vs = [.ref sv, .ref a] ∧ SvAt CS tl H sv st ∧ RowAt H a b ∧ Post CS tl H sv st (.sealRight b) Q
section
variable {P : Program} {w : World} {K : PySem.W.Frag} {mg : Str → Option Value} {base : Heap} {CC CT CQ CS CR : Addr}
theorem g_issue (T : Txt K mg CC CT CQ CS CR) : Gm P w K mg base 3 CS "issue" ["self", "root", "high", "low"] (spIssue CS) := by
  refine T.d_Service_issue.gm sc_Service_issue (fun vs H Q E h => ?_) (fun f cdv A outer s H vs Q E hr h => ?_)
  · obtain ⟨tl, sv, st, r, h, l, rfl, _⟩ := h
    rfl
  · obtain ⟨tl, sv, st, r, hi, lo, rfl, hS, hh, hl, q⟩ := h
    obtain ⟨ok, dx, d1, d2, d3, k1, hp, h1, h2, h3, n23, hk⟩ := id hS
    refine ⟨_, pss_cons (ps_if (pt_cmp (pc_dnotin (hu_of hr) (pv 1) (pe_fld (pv 0) rfl))) (pss_one (ps_ret (pe_lst (pa_cons (pe_un un_neg pe_int) pa_nil)))) pss_nil)
      (pss_cons (ps_set (i := 4) sc_Service_issue.nd rfl (Or.inl rfl) (pf (g_eight T) hr (pa_cons (pf (g_half T) hr (pa_cons (pv 2) (pa_cons (pv 3) pa_nil))) pa_nil)))
      (pss_cons (ps_set (i := 5) sc_Service_issue.nd rfl (Or.inl rfl) (pf (g_first T) hr (pa_cons (pe_dget (hu_of hr) (pe_fld (pv 0) rfl) (pv 1) (fun _ _ => rfl)) (pa_cons (pv 1) (pa_cons (pv 4) pa_nil)))))
      (pss_cons (ps_set (i := 6) sc_Service_issue.nd rfl (Or.inl rfl) (pf (g_tokrow T) hr (pa_cons (pn (g_Token T) hr T.mg_Token (pa_cons (pv 1) (pa_cons (pv 4) (pa_cons (pe_lst pa_nil) (pa_cons (pv 5) pa_nil))))) pa_nil)))
      (pss_one (ps_ret (pe_op op_cat (pe_lst (pa_cons (plen T.b_len (pv 6)) pa_nil)) (pv 6))))))), ?_⟩
    refine ⟨_, rfl, _, rfl, sv, CS, dx, _, _, rfl, hp, T.cl_Service, T.n_Service_root_keys, rfl, d1, _, rfl, DGet.k (k := Sum.inl (r : Int)) h1, _, rfl, ?_⟩
    cases ek : st.key r with
    | none =>
      rw [hk.no r ek]
      refine iteT ⟨_, rfl, (by show 1 ≤ sizeLine; decide), fun p hp => ?_⟩
      refine q.same hS ?_ (SameN.new hp) (a := NtDesk.says (-1)) upd_same
      show (st, _) = _
      rw [ek]
    | some key =>
      obtain ⟨ka, e1, e2, e3, e4⟩ := hk.yes r key ek
      have rl := key_low ok ek
      rw [e1]
      refine iteF ?_
      refine ⟨_, rfl, _, rfl, hi, lo, rfl, NtDesk.serialOf hi lo, rfl, fun H1 p1 s1 r1 => ?_⟩
      refine ⟨_, rfl, sv, CS, dx, _, _, rfl, s1 _ _ hp, T.cl_Service, T.n_Service_root_keys, rfl, _, rfl, d1, .ref ka, rfl, ?_, ?_⟩
      · rw [← e1]
        exact DGet.k (k := Sum.inl (r : Int)) (s1 _ _ h1)
      · refine ⟨_, rfl, _, rfl, ka, p1, key, r, NtDesk.serialOf hi lo, rfl, e2.same s1, by omega, by omega, r1, fun H2 p2 s2 r2 => ?_⟩
        refine ⟨_, rfl, _, rfl, Nat.zero_le _, fun p3 n3 => ?_⟩
        have s3 := Same.new (o := .lst []) n3
        refine ⟨_, rfl, ?_⟩
        intro x dy nx nd ne
        have s4 := Same.inst (o := .ins CT dy (tf (.int (r : Int)) (.ref p1) (.ref p3) (.ref p2))) nx nd
        refine ⟨x, dy, _, _, _, _, rfl, upd_same, rfl, ?_⟩
        rw [upd_upd]
        have sl : NtDesk.serialOf hi lo < 2 ^ 64 := by
          show hi * 4294967296 + lo < 2 ^ 64
          omega
        have tok : TokOk ⟨r, NtDesk.serialOf hi lo, [], Nt.sealed key r (NtDesk.serialOf hi lo)⟩ := ⟨by show r < 256; omega, sl, Nat.zero_le _, fun c hc => (by cases hc), hb_len _⟩
        refine ⟨x, ⟨r, NtDesk.serialOf hi lo, [], Nt.sealed key r (NtDesk.serialOf hi lo)⟩, rfl, ⟨dy, p1, p3, p2, [], upd_same, r1.same (s2.trans (s3.trans s4)), s4 _ _ upd_same, CavsAt.nil, r2.same (s3.trans s4)⟩, tok, fun H5 p5 s5 r5 => ?_⟩
        refine ⟨_, rfl, p5, _, rfl, .inl (SqL.of r5), (by show 1 ≤ sizeLine; decide), fun l6 n6 => ?_⟩
        have s6 := Same.new (o := .lst [.int ((bv (Nt.tokenBytes ⟨r, NtDesk.serialOf hi lo, [], Nt.sealed key r (NtDesk.serialOf hi lo)⟩)).length : Int)]) n6
        refine ⟨_, rfl, l6, p5, _, _, rfl, rfl, upd_same, s6 _ _ r5, fits (by have := tokBytes_few tok; simp only [List.length_cons, List.length_nil, bv_len]; omega), fun l7 n7 => ?_⟩
        refine q.same hS (a := NtDesk.shows (Nt.tokenBytes ⟨r, NtDesk.serialOf hi lo, [], Nt.sealed key r (NtDesk.serialOf hi lo)⟩)) ?_ (s1.transN (s2.transN (s3.transN (s4.transN (s5.transN (s6.transN (SameN.new n7))))))) ?_
        · show (st, _) = _
          rw [ek]
        · show upd _ _ _ l7 = _
          rw [upd_same, told_shows, bv_len]
theorem g_uses (T : Txt K mg CC CT CQ CS CR) : Gm P w K mg base 2 CS "uses" ["self", "root", "high", "low"] (spUses CS) := by
  refine T.d_Service_uses.gm sc_Service_uses (fun vs H Q E h => ?_) (fun f cdv A outer s H vs Q E hr h => ?_)
  · obtain ⟨tl, sv, st, r, h, l, rfl, _⟩ := h
    rfl
  · obtain ⟨tl, sv, st, r, hi, lo, rfl, hS, q⟩ := h
    obtain ⟨ok, dx, d1, d2, d3, k1, hp, h1, h2, h3, n23, hk⟩ := id hS
    refine ⟨_, pss_cons (ps_if (pt_cmp (pc_dnotin (hu_of hr) (pv 1) (pe_fld (pv 0) rfl))) (pss_one (ps_ret (pe_lst (pa_cons (pe_un un_neg pe_int) pa_nil)))) pss_nil)
      (pss_one (ps_ret (pe_lst (pa_cons (pe_dget2 (hu_of hr) (pe_fld (pv 0) rfl) (pe_tup (pa_cons (pv 1) (pa_cons (pf (g_half T) hr (pa_cons (pv 2) (pa_cons (pv 3) pa_nil))) pa_nil))) pe_int ⟨rfl, rfl, rfl, rfl⟩) pa_nil)))), ?_⟩
    refine ⟨_, rfl, _, rfl, sv, CS, dx, _, _, rfl, hp, T.cl_Service, T.n_Service_root_keys, rfl, d1, _, rfl, DGet.k (k := Sum.inl (r : Int)) h1, _, rfl, ?_⟩
    cases ek : st.key r with
    | none =>
      rw [hk.no r ek]
      refine iteT ⟨_, rfl, (by show 1 ≤ sizeLine; decide), fun p hp => ?_⟩
      refine q.same hS ?_ (SameN.new hp) (a := NtDesk.says (-1)) upd_same
      show (st, if _ then _ else _) = _
      rw [ek]
      rfl
    | some key =>
      obtain ⟨ka, e1, _⟩ := hk.yes r key ek
      rw [e1]
      refine iteF ?_
      refine ⟨_, rfl, sv, CS, dx, _, _, rfl, hp, T.cl_Service, T.n_Service_counts, rfl, d3, rfl, .inr ⟨_, .inl h3⟩, _, rfl, _, rfl, _, rfl, hi, lo, rfl, (by show 2 ≤ sizeLine; decide), fun t nt => ?_⟩
      have s1 := Same.new (o := .tup [.int (r : Int), .int (NtDesk.serialOf hi lo : Nat)]) nt
      refine ⟨_, DGet.t (k := gk (r, NtDesk.serialOf hi lo)) (s1 _ _ h3) upd_same, (by show 1 ≤ sizeLine; decide), fun p np => ?_⟩
      rw [cnt_get]
      refine q.same hS ?_ (s1.transN (SameN.new np)) (a := NtDesk.says (NtDesk.nat (st.count (r, NtDesk.serialOf hi lo)))) upd_same
      show (st, if _ then _ else _) = _
      rw [ek]
      rfl
theorem g_revoke (T : Txt K mg CC CT CQ CS CR) : Gm P w K mg base 2 CS "revoke" ["self", "root", "high", "low"] (spRevoke CS) := by
  refine T.d_Service_revoke.gm sc_Service_revoke (fun vs H Q E h => ?_) (fun f cdv A outer s H vs Q E hr h => ?_)
  · obtain ⟨tl, sv, st, r, h, l, rfl, _⟩ := h
    rfl
  · obtain ⟨tl, sv, st, r, hi, lo, rfl, hS, q⟩ := h
    obtain ⟨ok, dx, d1, d2, d3, k1, hp, h1, h2, h3, n23, hk⟩ := id hS
    refine ⟨_, pss_cons (ps_if (pt_cmp (pc_dnotin (hu_of hr) (pv 1) (pe_fld (pv 0) rfl))) (pss_one (ps_ret (pe_lst (pa_cons (pe_un un_neg pe_int) pa_nil)))) pss_nil)
      (pss_cons (ps_set (i := 4) sc_Service_revoke.nd rfl (Or.inl rfl) (pe_tup (pa_cons (pv 1) (pa_cons (pf (g_half T) hr (pa_cons (pv 2) (pa_cons (pv 3) pa_nil))) pa_nil))))
      (pss_cons (ps_if (pw_and (pt_cmp (pc_dnotin (hu_of hr) (pv 4) (pe_fld (pv 0) rfl))) (pw_and1 (pt_cmpR op_eq (plenT T.b_len (pe_fld (pv 0) rfl)) (pk T.c_MOST_REVOCATIONS) (nomark _)))).pt (pss_one (ps_ret (pe_lst (pa_cons (pe_un un_neg pe_int) pa_nil)))) pss_nil)
      (pss_cons (ps_dput (hu_of hr) (pe_fld (pv 0) rfl) (pv 4) pe_bl rfl)
      (pss_one (ps_ret (pe_lst (pa_cons pe_int pa_nil))))))), ?_⟩
    refine ⟨_, rfl, _, rfl, sv, CS, dx, _, _, rfl, hp, T.cl_Service, T.n_Service_root_keys, rfl, d1, _, rfl, DGet.k (k := Sum.inl (r : Int)) h1, _, rfl, ?_⟩
    cases ek : st.key r with
    | none =>
      rw [hk.no r ek]
      refine iteT ⟨_, rfl, (by show 1 ≤ sizeLine; decide), fun p hp => ?_⟩
      refine q.same hS ?_ (SameN.new hp) (a := NtDesk.says (-1)) upd_same
      show (if _ then _ else _) = _
      rw [ek]
      rfl
    | some key =>
      obtain ⟨ka, e1, _⟩ := hk.yes r key ek
      rw [e1]
      refine iteF ?_
      refine ⟨_, rfl, _, rfl, _, rfl, hi, lo, rfl, (by show 2 ≤ sizeLine; decide), fun t nt => ?_⟩
      have s1 := Same.new (o := .tup [.int (r : Int), .int (NtDesk.serialOf hi lo : Nat)]) nt
      have est : NtDesk.step st (.revoke r hi lo) = if st.gone.contains (r, NtDesk.serialOf hi lo) = true then (st, NtDesk.says 0) else if 16 ≤ st.gone.length then (st, NtDesk.says (-2)) else ({ st with gone := st.gone ++ [(r, NtDesk.serialOf hi lo)] }, NtDesk.says 0) := by
        show (if _ then _ else _) = _
        rw [ek]
        rfl
      have vg := val_gone st.gone (r, NtDesk.serialOf hi lo)
      have gl : (goneD st.gone).length = st.gone.length := by unfold goneD; rw [List.length_map]
      have put : ∀ H1, Same (upd H t (.tup [.int (r : Int), .int (NtDesk.serialOf hi lo : Nat)])) H1 → (st.gone.contains (r, NtDesk.serialOf hi lo) = true ∨ ¬ 16 ≤ st.gone.length) → ∀ p, upd H1 d2 (.dT (putK (goneD st.gone) (gk (r, NtDesk.serialOf hi lo)) (.bl true))) p = none →
          Q (.ref p) (upd (upd H1 d2 (.dT (putK (goneD st.gone) (gk (r, NtDesk.serialOf hi lo)) (.bl true)))) p (.lst [.int 0])) := fun H1 s2 z p np => by
        have s3 := Same.new (o := .lst [.int 0]) np
        have s12 := s1.trans s2
        have kk : KeepS CS H (upd H1 d2 (.dT (putK (goneD st.gone) (gk (r, NtDesk.serialOf hi lo)) (.bl true)))) := (KeepS.of s12).trans (KeepS.over (s12 _ _ h2) (fun x => x))
        have o1 : sv ≠ d2 := ne_of hp h2 (by intro x; cases x)
        have o2 : d1 ≠ d2 := ne_of h1 h2 (by intro x; cases x)
        have e2 : (NtDesk.step st (.revoke r hi lo)).2 = NtDesk.says 0 := by
          rw [est]
          by_cases c : st.gone.contains (r, NtDesk.serialOf hi lo) = true
          · rw [if_pos c]
          · rw [if_neg c, if_neg (z.resolve_left c)]
        have e3 : (NtDesk.step st (.revoke r hi lo)).1 = { st with gone := if st.gone.contains (r, NtDesk.serialOf hi lo) = true then st.gone else st.gone ++ [(r, NtDesk.serialOf hi lo)] } := by
          rw [est]
          by_cases c : st.gone.contains (r, NtDesk.serialOf hi lo) = true
          · rw [if_pos c, if_pos c]
          · rw [if_neg c, if_neg (z.resolve_left c), if_neg c]
        refine q _ p (KeepN.up kk np s3) ?_ (by rw [e2]; exact upd_same)
        rw [e3]
        refine ⟨⟨ok.keys, ?_, ok.counts, ?_, ok.nd, ok.pos⟩, dx, d1, d2, d3, k1, s3 _ _ (by rw [upd_ne o1]; exact s12 _ _ hp), s3 _ _ (by rw [upd_ne o2]; exact s12 _ _ h1), s3 _ _ (by rw [upd_same, put_gone]), s3 _ _ (by rw [upd_ne n23.symm]; exact s12 _ _ h3), n23, ?_⟩
        · show (if _ then _ else _ : List (Nat × Nat)).length ≤ 16
          by_cases c : st.gone.contains (r, NtDesk.serialOf hi lo) = true
          · rw [if_pos c]
            exact ok.gone
          · rw [if_neg c, List.length_append, List.length_singleton]
            have := z.resolve_left c
            omega
        · show (if _ then _ else _ : List (Nat × Nat)).Nodup
          by_cases c : st.gone.contains (r, NtDesk.serialOf hi lo) = true
          · rw [if_pos c]
            exact ok.gnd
          · rw [if_neg c]
            exact nd_snoc ok.gnd fun m => c (List.contains_iff_mem.mpr m)
        · obtain ⟨a1, a2, a3, a4⟩ := hk.keep (kk.trans (KeepS.of (CS := CS) s3))
          exact ⟨a1, a2, a3, a4⟩
      refine ⟨_, rfl, _, rfl, sv, CS, dx, _, _, rfl, s1 _ _ hp, T.cl_Service, T.n_Service_revocations, rfl, d2, _, rfl, DGet.t (k := gk (r, NtDesk.serialOf hi lo)) (s1 _ _ h2) upd_same, _, rfl, ?_⟩
      rw [vg]
      cases c : st.gone.contains (r, NtDesk.serialOf hi lo) with
      | true =>
        refine iteF (iteF ?_)
        refine ⟨_, rfl, sv, CS, dx, _, _, rfl, s1 _ _ hp, T.cl_Service, T.n_Service_revocations, rfl, _, rfl, d2, _, rfl, DPut.t (k := gk (r, NtDesk.serialOf hi lo)) (s1 _ _ h2) upd_same (small1000 (by rw [gl]; have := ok.gone; omega)), (by show 1 ≤ sizeLine; decide), fun p np => ?_⟩
        exact put _ (Same.refl _) (.inl c) p np
      | false =>
        refine iteT ?_
        refine ⟨_, rfl, sv, CS, dx, _, _, rfl, s1 _ _ hp, T.cl_Service, T.n_Service_revocations, rfl, d2, _, rfl, s1 _ _ h2, rfl, _, rfl, ite2 (fun y => ?_) (fun y => ?_)⟩
        · have y := V.int.inj (of_decide_eq_true y)
          rw [gl] at y
          refine ⟨_, rfl, (by show 1 ≤ sizeLine; decide), fun p hp => ?_⟩
          refine q.same hS ?_ (s1.transN (SameN.new hp)) (a := NtDesk.says (-2)) upd_same
          rw [est, c, if_neg (by decide), if_pos (by omega)]
        · have y : ¬ st.gone.length = 16 := fun x => y (decide_eq_true (by rw [gl, x]; rfl))
          refine ⟨_, rfl, sv, CS, dx, _, _, rfl, s1 _ _ hp, T.cl_Service, T.n_Service_revocations, rfl, _, rfl, d2, _, rfl, DPut.t (k := gk (r, NtDesk.serialOf hi lo)) (s1 _ _ h2) upd_same (small1000 (by rw [gl]; have := ok.gone; omega)), (by show 1 ≤ sizeLine; decide), fun p np => ?_⟩
          exact put _ (Same.refl _) (.inr (by have := ok.gone; omega)) p np
end
end NT
set_option Elab.async false
set_option linter.all false
set_option maxRecDepth 100000
set_option maxHeartbeats 2000000
namespace NT
open PySem PySem.Spec PyProof.Rows L2
def spAllow (CS : Addr) : Sp := fun vs H Q _ => ∃ (tl sv a1 a2 : Addr) (st : Nt.Service) (n o : Nat) (b p : List UInt8), vs = [.ref sv, .int (n : Int), .int (o : Int), .ref a1, .ref a2] ∧ SvAt CS tl H sv st ∧ RowAt H a1 b ∧ RowAt H a2 p ∧ Post CS tl H sv st (.allow n o b p) Q
/-! ### the document's verdict, case by case -/
section
variable {st : Nt.Service} {n o : Nat} {b p key : List UInt8} {t : Nt.Token}
theorem al_1 (h : Nt.readToken b = none) : NtDesk.step st (.allow n o b p) = (st, NtDesk.says 1) := by
  unfold NtDesk.step Nt.Service.judge
  simp only [h]
  rfl
theorem al_2 (h : Nt.readToken b = some t) (hk : st.key t.root = none) : NtDesk.step st (.allow n o b p) = (st, NtDesk.says 2) := by
  unfold NtDesk.step Nt.Service.judge
  simp only [h, hk]
  rfl
theorem al_3 (h : Nt.readToken b = some t) (hk : st.key t.root = some key) (hs : Nt.rightSeal key t ≠ t.seal_) : NtDesk.step st (.allow n o b p) = (st, NtDesk.says 3) := by
  unfold NtDesk.step Nt.Service.judge
  simp only [h, hk, if_pos hs]
  rfl
theorem al_4 (h : Nt.readToken b = some t) (hk : st.key t.root = some key) (hs : ¬ Nt.rightSeal key t ≠ t.seal_) (hg : st.gone.contains (t.root, t.serial) = true) : NtDesk.step st (.allow n o b p) = (st, NtDesk.says 4) := by
  unfold NtDesk.step Nt.Service.judge
  simp only [h, hk, if_neg hs, if_pos hg]
  rfl
theorem al_5 (h : Nt.readToken b = some t) (hk : st.key t.root = some key) (hs : ¬ Nt.rightSeal key t ≠ t.seal_) (hg : ¬ st.gone.contains (t.root, t.serial) = true) {i : Nat}
    (hf : (t.caveats.findIdx? fun (c : Nt.Caveat) => !Nt.holds c ⟨n, o, p⟩ (st.count (t.root, t.serial))) = some i) : NtDesk.step st (.allow n o b p) = (st, ⟨5, [i], []⟩) := by
  unfold NtDesk.step Nt.Service.judge
  simp only [h, hk, if_neg hs, if_neg hg, hf]
  rfl
theorem al_6 (h : Nt.readToken b = some t) (hk : st.key t.root = some key) (hs : ¬ Nt.rightSeal key t ≠ t.seal_) (hg : ¬ st.gone.contains (t.root, t.serial) = true)
    (hf : (t.caveats.findIdx? fun (c : Nt.Caveat) => !Nt.holds c ⟨n, o, p⟩ (st.count (t.root, t.serial))) = none) (hu : t.caveats.any Nt.isUses = true) (hc : st.count (t.root, t.serial) = 0 ∧ 16 ≤ st.counts.length) : NtDesk.step st (.allow n o b p) = (st, NtDesk.says 6) := by
  have hc' : t.caveats.any Nt.isUses = true ∧ st.count (t.root, t.serial) = 0 ∧ Nt.MOST ≤ st.counts.length := ⟨hu, hc⟩
  unfold NtDesk.step Nt.Service.judge
  simp only [h, hk, if_neg hs, if_neg hg, hf, if_pos hc']
  rfl
theorem al_0c (h : Nt.readToken b = some t) (hk : st.key t.root = some key) (hs : ¬ Nt.rightSeal key t ≠ t.seal_) (hg : ¬ st.gone.contains (t.root, t.serial) = true)
    (hf : (t.caveats.findIdx? fun (c : Nt.Caveat) => !Nt.holds c ⟨n, o, p⟩ (st.count (t.root, t.serial))) = none) (hu : t.caveats.any Nt.isUses = true) (hc : ¬ (st.count (t.root, t.serial) = 0 ∧ 16 ≤ st.counts.length)) : NtDesk.step st (.allow n o b p) = (st.counted (t.root, t.serial), NtDesk.says 0) := by
  have hc' : ¬ (t.caveats.any Nt.isUses = true ∧ st.count (t.root, t.serial) = 0 ∧ Nt.MOST ≤ st.counts.length) := fun z => hc z.2
  unfold NtDesk.step Nt.Service.judge
  simp only [h, hk, if_neg hs, if_neg hg, hf, if_neg hc']
  rw [if_pos ⟨trivial, hu⟩]
  rfl
theorem al_0 (h : Nt.readToken b = some t) (hk : st.key t.root = some key) (hs : ¬ Nt.rightSeal key t ≠ t.seal_) (hg : ¬ st.gone.contains (t.root, t.serial) = true)
    (hf : (t.caveats.findIdx? fun (c : Nt.Caveat) => !Nt.holds c ⟨n, o, p⟩ (st.count (t.root, t.serial))) = none) (hu : ¬ t.caveats.any Nt.isUses = true) : NtDesk.step st (.allow n o b p) = (st, NtDesk.says 0) := by
  have hc' : ¬ (t.caveats.any Nt.isUses = true ∧ st.count (t.root, t.serial) = 0 ∧ Nt.MOST ≤ st.counts.length) := fun z => hu z.1
  unfold NtDesk.step Nt.Service.judge
  simp only [h, hk, if_neg hs, if_neg hg, hf, if_neg hc']
  rw [if_neg fun z => hu z.2]
  rfl
end
section
variable {P : Program} {w : World} {K : PySem.W.Frag} {mg : Str → Option Value} {base : Heap} {CC CT CQ CS CR : Addr}
theorem g_seal (T : Txt K mg CC CT CQ CS CR) : Gm P w K mg base 4 CS "seal_is_right" ["self", "token"] (spSeal CC CT CS) := by
  refine T.d_Service_seal_is_right.gm sc_Service_seal_is_right (fun vs H Q E h => ?_) (fun f cdv A outer s H vs Q E hr h => ?_)
  · obtain ⟨tl, sv, tp, st, t, key, rfl, _⟩ := h
    rfl
  · obtain ⟨tl, sv, tp, st, t, key, rfl, hS, ht, tok, ek, q⟩ := h
    obtain ⟨ok, dx, d1, d2, d3, k1, hp, h1, h2, h3, n23, hk⟩ := id hS
    obtain ⟨dt, sa, ca, la, ps, t1, t2, t3, t4, t5⟩ := ht.ex
    obtain ⟨ka, e1, e2, e3, e4⟩ := hk.yes t.root key ek
    refine ⟨_, pss_one (ps_ret (pe_cmpR (op_eqD hr.units) (pe_fld (pv 1) rfl) (pf (g_right T) hr (pa_cons (pv 1) (pa_cons (pe_dget (hu_of hr) (pe_fld (pv 0) rfl) (pe_fld (pv 1) rfl) (fun _ _ => rfl)) pa_nil))) (nomark _))), ?_⟩
    refine ⟨_, rfl, tp, CT, dt, _, _, rfl, t1, T.cl_Token, T.n_Token_seal, rfl, _, rfl, _, rfl, sv, CS, dx, _, _, rfl, hp, T.cl_Service, T.n_Service_root_keys, rfl, _, rfl, tp, CT, dt, _, _, rfl, t1, T.cl_Token, T.n_Token_root, rfl, d1, .ref ka, rfl, ?_, ?_⟩
    · rw [← e1]
      exact DGet.k (k := Sum.inl (t.root : Int)) h1
    · refine ⟨tp, ka, t, key, rfl, ht, tok, e2, by omega, fun H1 q1 s1 r1 => ?_⟩
      refine ⟨_, _, dp_row (t5.same s1), dp_row r1, shaped_row _, shaped_row _, ?_⟩
      show Q (.bl (PyData.eqvAll _ _)) H1
      rw [eqv_rows]
      exact q H1 s1
theorem g_countuse (T : Txt K mg CC CT CQ CS CR) : Gm P w K mg base 1 CS "count_use" ["self", "pair"] (spCountUse CS) := by
  refine T.d_Service_count_use.gm sc_Service_count_use (fun vs H Q E h => ?_) (fun f cdv A outer s H vs Q E hr h => ?_)
  · obtain ⟨tl, sv, pa, st, x, rfl, _⟩ := h
    rfl
  · obtain ⟨tl, sv, pa, st, x, rfl, hS, hpa, q6, q0⟩ := h
    obtain ⟨ok, dx, d1, d2, d3, k1, hp, h1, h2, h3, n23, hk⟩ := id hS
    refine ⟨_, pss_cons (ps_if (pw_and (pt_cmp (pc_dnotin (hu_of hr) (pv 1) (pe_fld (pv 0) rfl))) (pw_and1 (pt_cmpR op_eq (plenT T.b_len (pe_fld (pv 0) rfl)) (pk T.c_MOST_COUNTS) (nomark _)))).pt (pss_one (ps_ret (pe_lst (pa_cons pe_int pa_nil)))) pss_nil)
      (pss_cons (ps_dput (hu_of hr) (pe_fld (pv 0) rfl) (pv 1) (pe_op op_add (pe_dget2 (hu_of hr) (pe_fld (pv 0) rfl) (pv 1) pe_int ⟨rfl, rfl, rfl, rfl⟩) pe_int) rfl)
      (pss_one (ps_ret (pe_lst (pa_cons pe_int pa_nil))))), ?_⟩
    have gl : (cntD st.counts).length = st.counts.length := by unfold cntD; rw [List.length_map]
    have fin : ¬ (st.count x = 0 ∧ 16 ≤ st.counts.length) → ∀ p, upd H d3 (.dT (putK (cntD st.counts) (gk x) (.int ((st.count x : Int) + 1)))) p = none → Q (.ref p) (upd (upd H d3 (.dT (putK (cntD st.counts) (gk x) (.int ((st.count x : Int) + 1))))) p (.lst [.int 0])) := fun z p np => by
      have s3 := Same.new (o := .lst [.int 0]) np
      have kk : KeepS CS H (upd H d3 (.dT (putK (cntD st.counts) (gk x) (.int ((st.count x : Int) + 1))))) := KeepS.over h3 (fun x => x)
      have o1 : sv ≠ d3 := ne_of hp h3 (by intro x; cases x)
      have o2 : d1 ≠ d3 := ne_of h1 h3 (by intro x; cases x)
      have k2 := kk.trans (KeepS.of (CS := CS) s3)
      have eg : (st.counted x).gone = st.gone := by
        unfold Nt.Service.counted
        by_cases c : st.count x = 0
        · rw [if_pos c]
        · rw [if_neg c]
      have ekk : (st.counted x).keys = st.keys := by
        unfold Nt.Service.counted
        by_cases c : st.count x = 0
        · rw [if_pos c]
        · rw [if_neg c]
      refine q0 z _ p (KeepN.up kk np s3) ⟨counted_ok ok x (fun c => by have := ok.counts; omega), dx, d1, d2, d3, k1, s3 _ _ (by rw [upd_ne o1]; exact hp), s3 _ _ (by rw [upd_ne o2]; exact h1), s3 _ _ (by rw [upd_ne n23, eg]; exact h2), s3 _ _ (by rw [upd_same, put_cnt ok]), n23, ?_⟩ upd_same
      obtain ⟨a1, a2, a3, a4⟩ := hk.keep k2
      have ek : ∀ r, (st.counted x).key r = st.key r := fun r => by
        unfold Nt.Service.key
        rw [ekk]
      exact ⟨a1, a2, fun r e => a3 r (by rw [← ek]; exact e), fun r key e => a4 r key (by rw [← ek]; exact e)⟩
    refine ⟨_, rfl, _, rfl, sv, CS, dx, _, _, rfl, hp, T.cl_Service, T.n_Service_counts, rfl, d3, _, rfl, DGet.t (k := gk x) h3 hpa, _, rfl, ?_⟩
    rw [cnt_none ok]
    by_cases c : st.count x = 0
    · rw [decide_eq_true c]
      refine iteT ?_
      refine ⟨_, rfl, sv, CS, dx, _, _, rfl, hp, T.cl_Service, T.n_Service_counts, rfl, d3, _, rfl, h3, rfl, _, rfl, ite2 (fun y => ?_) (fun y => ?_)⟩
      · have y := V.int.inj (of_decide_eq_true y)
        rw [gl] at y
        exact ⟨(by show 1 ≤ sizeLine; decide), fun p hp => q6 ⟨c, by omega⟩ _ p (SameN.new hp) upd_same⟩
      · have y : ¬ st.counts.length = 16 := fun x => y (decide_eq_true (by rw [gl, x]; rfl))
        refine ⟨_, rfl, sv, CS, dx, _, _, rfl, hp, T.cl_Service, T.n_Service_counts, rfl, d3, rfl, .inr ⟨_, .inl h3⟩, _, rfl, _, DGet.t (k := gk x) h3 hpa, _, _, cnt_get x, rfl, ?_⟩
        refine ⟨_, rfl, sv, CS, dx, _, _, rfl, hp, T.cl_Service, T.n_Service_counts, rfl, _, rfl, d3, _, rfl, DPut.t (k := gk x) h3 hpa (small1000 (by rw [gl]; have := ok.counts; omega)), (by show 1 ≤ sizeLine; decide), fun p np => ?_⟩
        exact fin (fun z => by have := ok.counts; omega) p np
    · rw [decide_eq_false c]
      refine iteF (iteF ?_)
      refine ⟨_, rfl, sv, CS, dx, _, _, rfl, hp, T.cl_Service, T.n_Service_counts, rfl, d3, rfl, .inr ⟨_, .inl h3⟩, _, rfl, _, DGet.t (k := gk x) h3 hpa, _, _, cnt_get x, rfl, ?_⟩
      refine ⟨_, rfl, sv, CS, dx, _, _, rfl, hp, T.cl_Service, T.n_Service_counts, rfl, _, rfl, d3, _, rfl, DPut.t (k := gk x) h3 hpa (small1000 (by rw [gl]; have := ok.counts; omega)), (by show 1 ≤ sizeLine; decide), fun p np => ?_⟩
      exact fin (fun z => c z.1) p np
theorem g_sealright (T : Txt K mg CC CT CQ CS CR) : Gm P w K mg base 5 CS "right" ["self", "row"] (spSealRight CS) := by
  refine T.d_Service_right.gm sc_Service_right (fun vs H Q E h => ?_) (fun f cdv A outer s H vs Q E hr h => ?_)
  · obtain ⟨tl, sv, a, st, b, rfl, _⟩ := h
    rfl
  · obtain ⟨tl, sv, a, st, b, rfl, hS, ha, q⟩ := h
    refine ⟨_, pss_cons (ps_set (i := 2) sc_Service_right.nd rfl (Or.inl rfl) (pf (g_read T) hr (pa_cons (pv 1) pa_nil)))
      (pss_cons (ps_if (pt_cmp (pc_isN (pv 2))) (pss_one (ps_ret (pe_lst (pa_cons (pe_un un_neg pe_int) pa_nil)))) pss_nil)
      (pss_cons (ps_if (pt_cmp (pc_dnotin (hu_of hr) (pe_fld (pv 2) rfl) (pe_fld (pv 0) rfl))) (pss_one (ps_ret (pe_lst (pa_cons (pe_un un_neg pe_int) pa_nil)))) pss_nil)
      (pss_one (ps_ret (pe_lst (pa_cons (pe_ifExp (pt_val (pm (g_seal T) hr T.cl_Service (pv 0) (pa_cons (pv 2) pa_nil))) pe_int pe_int) pa_nil)))))), ?_⟩
    refine ⟨_, rfl, a, b, rfl, ha, fun e H1 s1 => ?_, fun t e H1 p s1 ht => ?_⟩
    · refine ⟨_, rfl, _, rfl, iteT ⟨_, rfl, (by show 1 ≤ sizeLine; decide), fun p hp => ?_⟩⟩
      refine q.same hS ?_ (s1.transN (SameN.new hp)) (a := NtDesk.says (-1)) upd_same
      show (st, NtDesk.ofToken b _) = _
      rw [ofTok_none e]
    · obtain ⟨tok, few, _⟩ := read_ok e
      have hS1 := hS.same s1
      obtain ⟨ok, dx, d1, d2, d3, k1, hp, h1, h2, h3, n23, hk⟩ := id hS1
      obtain ⟨dt, sa, ca, la, ps, t1, t2, t3, t4, t5⟩ := ht.ex
      refine ⟨_, rfl, _, rfl, iteF ?_⟩
      refine ⟨_, rfl, p, CT, dt, _, _, rfl, t1, T.cl_Token, T.n_Token_root, rfl, _, rfl, sv, CS, dx, _, _, rfl, hp, T.cl_Service, T.n_Service_root_keys, rfl, d1, _, rfl, DGet.k (k := Sum.inl (t.root : Int)) h1, _, rfl, ?_⟩
      cases ek : st.key t.root with
      | none =>
        rw [hk.no t.root ek]
        refine iteT ⟨_, rfl, (by show 1 ≤ sizeLine; decide), fun p hp => ?_⟩
        refine q.same hS ?_ (s1.transN (SameN.new hp)) (a := NtDesk.says (-2)) upd_same
        show (st, NtDesk.ofToken b _) = _
        rw [ofTok_some e, ek]
      | some key =>
        obtain ⟨ka, e1, _⟩ := hk.yes t.root key ek
        rw [e1]
        refine iteF ?_
        have est : NtDesk.step st (.sealRight b) = (st, NtDesk.says (if Nt.rightSeal key t = t.seal_ then 1 else 0)) := by
          show (st, NtDesk.ofToken b _) = _
          rw [ofTok_some e, ek]
        refine ⟨_, rfl, sv, dx, _, rfl, hp, rfl, _, rfl, tl, sv, p, st, t, key, rfl, hS1, ht, tok, ek, fun H2 s2 => ⟨_, rfl, ite2 (fun z => ?_) (fun z => ?_)⟩⟩
        · have z := of_decide_eq_true z
          refine ⟨(by show 1 ≤ sizeLine; decide), fun p hp => ?_⟩
          rw [if_pos z.symm] at est
          exact q.same hS est (s1.transN (s2.transN (SameN.new hp))) upd_same
        · have z : ¬ t.seal_ = Nt.rightSeal key t := fun y => z (decide_eq_true y)
          refine ⟨(by show 1 ≤ sizeLine; decide), fun p hp => ?_⟩
          rw [if_neg fun y => z y.symm] at est
          exact q.same hS est (s1.transN (s2.transN (SameN.new hp))) upd_same
theorem g_allow (T : Txt K mg CC CT CQ CS CR) : Gm P w K mg base 5 CS "allow" ["self", "now", "op", "row", "path"] (spAllow CS) := by
  refine T.d_Service_allow.gm sc_Service_allow (fun vs H Q E h => ?_) (fun f cdv A outer s H vs Q E hr h => ?_)
  · obtain ⟨tl, sv, a1, a2, st, n, o, b, p, rfl, _⟩ := h
    rfl
  · obtain ⟨tl, sv, a1, a2, st, n, o, b, pth, rfl, hS, ha, hpth, q⟩ := h
    refine ⟨_, pss_cons (ps_set (i := 5) sc_Service_allow.nd rfl (Or.inl rfl) (pf (g_read T) hr (pa_cons (pv 3) pa_nil)))
      (pss_cons (ps_if (pt_cmp (pc_isN (pv 5))) (pss_one (ps_ret (pe_lst (pa_cons pe_int pa_nil)))) pss_nil)
      (pss_cons (ps_if (pt_cmp (pc_dnotin (hu_of hr) (pe_fld (pv 5) rfl) (pe_fld (pv 0) rfl))) (pss_one (ps_ret (pe_lst (pa_cons pe_int pa_nil)))) pss_nil)
      (pss_cons (ps_if (pt_not (pt_val (pm (g_seal T) hr T.cl_Service (pv 0) (pa_cons (pv 5) pa_nil)))) (pss_one (ps_ret (pe_lst (pa_cons pe_int pa_nil)))) pss_nil)
      (pss_cons (ps_set (i := 6) sc_Service_allow.nd rfl (Or.inl rfl) (pe_tup (pa_cons (pe_fld (pv 5) rfl) (pa_cons (pf (g_num T) hr (pa_cons (pe_fld (pv 5) rfl) pa_nil)) pa_nil))))
      (pss_cons (ps_if (pt_cmp (pc_din (hu_of hr) (pv 6) (pe_fld (pv 0) rfl))) (pss_one (ps_ret (pe_lst (pa_cons pe_int pa_nil)))) pss_nil)
      (pss_cons (ps_set (i := 7) sc_Service_allow.nd rfl (Or.inl rfl) (pf (g_fails T) hr (pa_cons (pe_fld (pv 5) rfl) (pa_cons (pn (g_Request T) hr T.mg_Request (pa_cons (pv 1) (pa_cons (pv 2) (pa_cons (pv 4) (pa_cons (pe_dget2 (hu_of hr) (pe_fld (pv 0) rfl) (pv 6) pe_int ⟨rfl, rfl, rfl, rfl⟩) pa_nil))))) pa_nil))))
      (pss_cons (ps_if (pt_cmp (pc_notN (pv 7))) (pss_one (ps_ret (pe_lst (pa_cons pe_int (pa_cons (pv 7) pa_nil))))) pss_nil)
      (pss_cons (ps_if (pt_val (pf (g_counted T) hr (pa_cons (pe_fld (pv 5) rfl) pa_nil))) (pss_one (ps_ret (pm (g_countuse T) hr T.cl_Service (pv 0) (pa_cons (pv 6) pa_nil)))) pss_nil)
      (pss_one (ps_ret (pe_lst (pa_cons pe_int pa_nil)))))))))))), ?_⟩
    refine ⟨_, rfl, a1, b, rfl, ha, fun e H1 s1 => ?_, fun t e H1 p s1 ht => ?_⟩
    · refine ⟨_, rfl, _, rfl, iteT ⟨(by show 1 ≤ sizeLine; decide), fun p hp => ?_⟩⟩
      exact q.same hS (al_1 e) (s1.transN (SameN.new hp)) upd_same
    · obtain ⟨tok, few, _⟩ := read_ok e
      have hS1 := hS.same s1
      obtain ⟨ok, dx, d1, d2, d3, k1, hp, h1, h2, h3, n23, hk⟩ := id hS1
      obtain ⟨dt, sa, ca, la, ps, t1, t2, t3, t4, t5⟩ := ht.ex
      refine ⟨_, rfl, _, rfl, iteF ?_⟩
      refine ⟨_, rfl, p, CT, dt, _, _, rfl, t1, T.cl_Token, T.n_Token_root, rfl, _, rfl, sv, CS, dx, _, _, rfl, hp, T.cl_Service, T.n_Service_root_keys, rfl, d1, _, rfl, DGet.k (k := Sum.inl (t.root : Int)) h1, _, rfl, ?_⟩
      cases ek : st.key t.root with
      | none =>
        rw [hk.no t.root ek]
        refine iteT ⟨(by show 1 ≤ sizeLine; decide), fun p hp => ?_⟩
        exact q.same hS (al_2 e ek) (s1.transN (SameN.new hp)) upd_same
      | some key =>
        obtain ⟨ka, e1, _⟩ := hk.yes t.root key ek
        rw [e1]
        refine iteF ?_
        refine ⟨_, rfl, sv, dx, _, rfl, hp, rfl, _, rfl, tl, sv, p, st, t, key, rfl, hS1, ht, tok, ek, fun H2 s2 => ⟨_, rfl, ite2 (fun z => ?_) (fun z => ?_)⟩⟩
        · have z : ¬ t.seal_ = Nt.rightSeal key t := fun y => by
            rw [decide_eq_true y] at z
            exact absurd z (by decide)
          refine ⟨(by show 1 ≤ sizeLine; decide), fun p hp => ?_⟩
          exact q.same hS (al_3 e ek fun y => z y.symm) (s1.transN (s2.transN (SameN.new hp))) upd_same
        · have hs : ¬ Nt.rightSeal key t ≠ t.seal_ := fun y => z (by rw [decide_eq_false fun x => y x.symm]; rfl)
          have s12 := s1.trans s2
          refine ⟨_, rfl, p, CT, dt, _, _, rfl, s2 _ _ t1, T.cl_Token, T.n_Token_root, rfl, _, rfl, p, CT, dt, _, _, rfl, s2 _ _ t1, T.cl_Token, T.n_Token_serial, rfl, sa, _, rfl, s2 _ _ t2, (by show 2 ≤ sizeLine; decide), fun tp nt => ?_⟩
          rw [num_le 8 t.serial (Nat.lt_of_lt_of_le tok.serial (by decide))]
          have s3 := Same.new (o := .tup [.int (t.root : Int), .int (t.serial : Int)]) nt
          have s23 := s2.trans s3
          refine ⟨_, rfl, _, rfl, sv, CS, dx, _, _, rfl, s23 _ _ hp, T.cl_Service, T.n_Service_revocations, rfl, d2, _, rfl, DGet.t (k := gk (t.root, t.serial)) (s23 _ _ h2) upd_same, _, rfl, ?_⟩
          rw [val_gone]
          refine ite2 (fun hg => ?_) (fun hg => ?_)
          · refine ⟨(by show 1 ≤ sizeLine; decide), fun p hp => ?_⟩
            exact q.same hS (al_4 e ek hs hg) (s12.transN (s3.transN (SameN.new hp))) upd_same
          · refine ⟨_, rfl, p, CT, dt, _, _, rfl, s23 _ _ t1, T.cl_Token, T.n_Token_caveats, rfl, _, rfl, _, rfl, _, rfl, _, rfl, sv, CS, dx, _, _, rfl, s23 _ _ hp, T.cl_Service, T.n_Service_counts, rfl, d3, rfl, .inr ⟨_, .inl (s23 _ _ h3)⟩, _, rfl, _, DGet.t (k := gk (t.root, t.serial)) (s23 _ _ h3) upd_same, ?_⟩
            rw [cnt_get]
            intro x dy nx nd ne
            have s4 := Same.inst (o := .ins CQ dy (qf (.int (n : Int)) (.int (o : Int)) (.ref a2) (.int (st.count (t.root, t.serial) : Int)))) nx nd
            have s24 := s23.trans s4
            refine ⟨x, dy, _, _, _, _, rfl, upd_same, rfl, ?_⟩
            rw [upd_upd]
            refine ⟨ca, x, ps, t.caveats, ⟨n, o, pth⟩, st.count (t.root, t.serial), rfl, s24 _ _ t3, t4.same s24, tok.few, ⟨dy, a2, upd_same, hpth.same (s1.trans s24)⟩, fun H5 s5 => ?_⟩
            have s25 := s24.trans s5
            have s15 := s1.trans s25
            cases hf : (t.caveats.findIdx? fun (c : Nt.Caveat) => !Nt.holds c ⟨n, o, pth⟩ (st.count (t.root, t.serial))) with
            | some i =>
              refine ⟨_, rfl, _, rfl, iteT ⟨_, rfl, (by show 2 ≤ sizeLine; decide), fun p hp => ?_⟩⟩
              exact q.same hS (al_5 e ek hs hg hf) (s15.transN (SameN.new hp)) upd_same
            | none =>
              refine ⟨_, rfl, _, rfl, iteF ?_⟩
              refine ⟨_, rfl, p, CT, dt, _, _, rfl, s25 _ _ t1, T.cl_Token, T.n_Token_caveats, rfl, ca, ps, t.caveats, rfl, s25 _ _ t3, t4.same s25, tok.few, fun H6 s6 => ⟨_, rfl, ite2 (fun hu => ?_) (fun hu => ?_)⟩⟩
              · have s16 := s15.trans s6
                have s26 := s25.trans s6
                refine ⟨_, rfl, sv, dx, _, rfl, s26 _ _ hp, rfl, _, rfl, tl, sv, tp, st, (t.root, t.serial), rfl, hS.same s16, s6 _ _ (s5 _ _ (s4 _ _ upd_same)), fun hc H7 p7 s7 r7 => ?_, fun hc H7 p7 k7 S7 r7 => ?_⟩
                · exact q.same hS (al_6 e ek hs hg hf hu hc) (s16.transN s7) r7
                · refine q H7 p7 (KeepN.trans (KeepS.of s16) k7) ?_ ?_
                  · rw [al_0c e ek hs hg hf hu hc]
                    exact S7
                  · rw [al_0c e ek hs hg hf hu hc]
                    exact r7
              · refine ⟨(by show 1 ≤ sizeLine; decide), fun p hp => ?_⟩
                exact q.same hS (al_0 e ek hs hg hf hu) (s15.transN (s6.transN (SameN.new hp))) upd_same
end
end NT
set_option Elab.async false
set_option linter.all false
set_option maxRecDepth 100000
set_option maxHeartbeats 2000000
namespace NT
open PySem PySem.Spec PyProof.Rows L2
/-! ### the reader -/
def spRdInit (CR : Addr) : Sp := fun vs H Q _ => ∃ p dx c, vs = [.ref p, c] ∧ H p = some (.ins CR dx []) ∧ Q .non (upd H p (.ins CR dx (rf c (.int 0))))
def spAtEnd (K : PySem.W.Frag) (CR : Addr) : Sp := fun vs H Q _ => ∃ (rd dx ca : Addr) (l : List Int) (pl : Nat), vs = [.ref rd] ∧ H rd = some (.ins CR dx (rf (.ref ca) (.int (pl : Int)))) ∧ SqL K H ca (l.map V.int) ∧ Q (.bl (decide (pl = l.length))) H
def spTakeN (K : PySem.W.Frag) (CR : Addr) : Sp := fun vs H Q _ => ∃ (rd dx ca : Addr) (l : List Int) (pl : Nat) (z : Int), vs = [.ref rd] ∧ H rd = some (.ins CR dx (rf (.ref ca) (.int (pl : Int)))) ∧ SqL K H ca (l.map V.int) ∧ l[pl]? = some z ∧ Q (.int z) (upd H rd (.ins CR dx (rf (.ref ca) (.int ((pl + 1 : Nat) : Int)))))
def spTakeR (K : PySem.W.Frag) (CR : Addr) : Sp := fun vs H Q _ => ∃ (rd dx ca : Addr) (l : List Int) (pl n : Nat), vs = [.ref rd] ∧ H rd = some (.ins CR dx (rf (.ref ca) (.int (pl : Int)))) ∧ SqL K H ca (l.map V.int) ∧ l[pl]? = some (n : Int) ∧
  ∀ (H' : Hp) (p : Addr), H p = none → H' p = some (.lst (((l.drop (pl + 1)).take n).map V.int)) → H' rd = some (.ins CR dx (rf (.ref ca) (.int ((pl + 1 + n : Nat) : Int)))) → (∀ b o, H b = some o → b ≠ rd → H' b = some o) → Q (.ref p) H'
theorem sq_upd {K : PySem.W.Frag} {H : Hp} {ca rd : Addr} {xs : List V} {C dx : Addr} {fs : List (Str × V)} {o : HO} (h : SqL K H ca xs) (hr : H rd = some (.ins C dx fs)) : SqL K (upd H rd o) ca xs := by
  rcases h with (h | ⟨u, h⟩) | h
  · exact .inl (.inl (by rw [upd_ne (ne_of h hr (by intro z; cases z))]; exact h))
  · exact .inl (.inr ⟨u, by rw [upd_ne (ne_of h hr (by intro z; cases z))]; exact h⟩)
  · exact .inr h
section
variable {P : Program} {w : World} {K : PySem.W.Frag} {mg : Str → Option Value} {base : Heap} {CC CT CQ CS CR : Addr}
theorem g_Reader (T : Txt K mg CC CT CQ CS CR) : Gc P w K mg base 1 CR ["self", "calls"] (spRdInit CR) := by
  refine T.d_Reader_init.gc sc_Reader_init (fun vs H Q E h => ?_) (fun f cdv A outer s H vs Q E hr h => ?_)
  · obtain ⟨p, dx, c, rfl, _⟩ := h
    rfl
  · obtain ⟨p, dx, c, rfl, hp, q⟩ := h
    refine ⟨_, pss_cons (ps_fld (pv 0) (pv 1) rfl) (pss_one (ps_fld (pv 0) pe_int rfl)), ?_⟩
    refine ⟨_, rfl, _, rfl, p, CR, dx, _, rfl, hp, T.cl_Reader, T.n_Reader_calls, (by decide), ?_⟩
    refine ⟨_, rfl, p, CR, dx, _, rfl, upd_same, T.cl_Reader, T.n_Reader_place, (by show 1 < 1000; decide), ?_⟩
    rw [upd_upd]
    exact q
theorem g_atend (T : Txt K mg CC CT CQ CS CR) : Gm P w K mg base 1 CR "at_end" ["self"] (spAtEnd K CR) := by
  refine T.d_Reader_at_end.gm sc_Reader_at_end (fun vs H Q E h => ?_) (fun f cdv A outer s H vs Q E hr h => ?_)
  · obtain ⟨rd, dx, ca, l, pl, rfl, _⟩ := h
    rfl
  · obtain ⟨rd, dx, ca, l, pl, rfl, hp, hl, q⟩ := h
    refine ⟨_, pss_one (ps_ret (pe_cmpR op_eq (pe_fld (pv 0) rfl) (plen T.b_len (pe_fld (pv 0) rfl)) (nomark _))), ?_⟩
    refine ⟨_, rfl, rd, CR, dx, _, _, rfl, hp, T.cl_Reader, T.n_Reader_place, rfl, _, rfl, rd, CR, dx, _, _, rfl, hp, T.cl_Reader, T.n_Reader_calls, rfl, ca, _, rfl, .inl hl, rfl, ?_⟩
    have e : decide (V.int (pl : Int) = V.int ((l.map V.int).length : Int)) = decide (pl = l.length) := by
      rw [List.length_map]
      by_cases h : pl = l.length
      · rw [decide_eq_true h, decide_eq_true (by rw [h])]
      · rw [decide_eq_false h, decide_eq_false fun z => h (by have z := V.int.inj z; omega)]
    show Q (.bl (decide (V.int (pl : Int) = V.int ((l.map V.int).length : Int)))) H
    rw [e]
    exact q
theorem g_taken (T : Txt K mg CC CT CQ CS CR) : Gm P w K mg base 1 CR "take_number" ["self"] (spTakeN K CR) := by
  refine T.d_Reader_take_number.gm sc_Reader_take_number (fun vs H Q E h => ?_) (fun f cdv A outer s H vs Q E hr h => ?_)
  · obtain ⟨rd, dx, ca, l, pl, z, rfl, _⟩ := h
    rfl
  · obtain ⟨rd, dx, ca, l, pl, z, rfl, hp, hl, hz, q⟩ := h
    refine ⟨_, pss_cons (ps_set (i := 1) sc_Reader_take_number.nd rfl (Or.inl rfl) (pe_ix ix_list (pe_fld (pv 0) rfl) (pe_fld (pv 0) rfl) (fun _ _ => rfl)))
      (pss_cons (ps_fldaug (pv 0) pe_int in_add) (pss_one (ps_ret (pv 1)))), ?_⟩
    refine ⟨_, rfl, rd, CR, dx, _, _, rfl, hp, T.cl_Reader, T.n_Reader_calls, rfl, _, rfl, rd, CR, dx, _, _, rfl, hp, T.cl_Reader, T.n_Reader_place, rfl, ca, _, _, _, rfl, rfl, hl, at_of (j := pl) (v := V.int z) rfl (by rw [List.getElem?_map, hz]; rfl), ?_⟩
    refine ⟨_, rfl, rd, CR, dx, _, _, rfl, hp, T.cl_Reader, T.n_Reader_place, rfl, _, _, rfl, rfl, dx, _, hp, (by show 2 < 1000; decide), ?_⟩
    exact ⟨_, rfl, q⟩
theorem g_taker (T : Txt K mg CC CT CQ CS CR) : Gm P w K mg base 2 CR "take_row" ["self"] (spTakeR K CR) := by
  refine T.d_Reader_take_row.gm sc_Reader_take_row (fun vs H Q E h => ?_) (fun f cdv A outer s H vs Q E hr h => ?_)
  · obtain ⟨rd, dx, ca, l, pl, n, rfl, _⟩ := h
    rfl
  · obtain ⟨rd, dx, ca, l, pl, n, rfl, hp, hl, hz, q⟩ := h
    refine ⟨_, pss_cons (ps_set (i := 1) sc_Reader_take_row.nd rfl (Or.inl rfl) (pm0 (g_taken T) hr T.cl_Reader (pv 0)))
      (pss_cons (ps_set (i := 2) sc_Reader_take_row.nd rfl (Or.inl rfl) (pe_slice sl_list (pe_fld (pv 0) rfl) (po_some (pe_fld (pv 0) rfl)) (po_some (pe_op op_add (pe_fld (pv 0) rfl) (pv 1)))))
      (pss_cons (ps_fldaug (pv 0) (pv 1) in_add) (pss_one (ps_ret (pv 2))))), ?_⟩
    refine ⟨_, rfl, rd, dx, _, rfl, hp, rfl, rd, dx, ca, l, pl, (n : Int), rfl, hp, hl, hz, ?_⟩
    have hl1 := sq_upd (o := .ins CR dx (rf (.ref ca) (.int ((pl + 1 : Nat) : Int)))) hl hp
    refine ⟨_, rfl, rd, CR, dx, _, _, rfl, upd_same, T.cl_Reader, T.n_Reader_calls, rfl, _, rfl, rd, CR, dx, _, _, rfl, upd_same, T.cl_Reader, T.n_Reader_place, rfl, _, rfl, _, rfl, rd, CR, dx, _, _, rfl, upd_same, T.cl_Reader, T.n_Reader_place, rfl, _, rfl, _, _, rfl, rfl, _, rfl, ca, _, rfl, hl1, fun p np => ?_⟩
    have nrp : rd ≠ p := ne_of_none upd_same np
    have np0 : H p = none := by
      rw [upd_ne nrp.symm] at np
      exact np
    refine ⟨_, rfl, rd, CR, dx, _, _, rfl, (by rw [upd_ne nrp, upd_same]), T.cl_Reader, T.n_Reader_place, rfl, _, rfl, _, _, rfl, rfl, dx, _, (by rw [upd_ne nrp, upd_same]), (by show 2 < 1000; decide), ?_⟩
    refine ⟨_, rfl, q _ p np0 ?_ ?_ fun b o e hb => ?_⟩
    · rw [upd_ne nrp.symm, upd_same]
      have e : (((pl + 1 : Nat) : Int)) + (n : Int) = ((pl + 1 + n : Nat) : Int) := by omega
      show some (HO.lst (cutV (l.map V.int) (some ((pl + 1 : Nat) : Int)) (some ((((pl + 1 : Nat) : Int)) + (n : Int))))) = _
      rw [e, cut_nat, List.map_take, List.map_drop, show pl + 1 + n - (pl + 1) = n by omega]
    · rw [upd_same]
      have e : (((pl + 1 : Nat) : Int)) + (n : Int) = ((pl + 1 + n : Nat) : Int) := by omega
      show some (HO.ins CR dx (rf (.ref ca) (.int ((((pl + 1 : Nat) : Int)) + (n : Int))))) = _
      rw [e]
    · rw [upd_ne hb, upd_ne (ne_of_none e np0), upd_ne hb]
      exact e
end
/-! ### one call -/
/-- the rows at qs are xs, none of them the list at tl -/
def RowsAt (tl : Addr) (H : Hp) (qs : List Addr) (xs : List (List Int)) : Prop := qs.length = xs.length ∧ ∀ (i : Nat) (q : Addr) (x : List Int), qs[i]? = some q → xs[i]? = some x → H q = some (.lst (x.map V.int)) ∧ q ≠ tl
theorem long_row {k : List Int} (h : TokenNeutral.long k 160 0 255 = true) : k.map V.int = bv (TokenNeutral.text k) ∧ (TokenNeutral.text k).length ≤ 160 := by
  unfold TokenNeutral.long at h
  rw [Bool.and_eq_true] at h
  refine ⟨?_, by unfold TokenNeutral.text; rw [List.length_map]; exact of_decide_eq_true h.1⟩
  unfold bv TokenNeutral.text
  rw [List.map_map]
  refine List.map_congr_left fun z hz => ?_
  have hz := List.all_eq_true.mp h.2 z hz
  rw [Bool.and_eq_true] at hz
  have a1 := of_decide_eq_true hz.1
  have a2 := of_decide_eq_true hz.2
  show V.int z = V.int ((UInt8.ofNat z.toNat).toNat : Int)
  rw [UInt8.toNat_ofNat', Nat.mod_eq_of_lt (by omega)]
  congr 1
  omega
theorem whole_nat {z : Int} (h : TokenNeutral.whole32 z = true) : ∃ n : Nat, z = (n : Int) ∧ n < 4294967296 := by
  unfold TokenNeutral.whole32 at h
  rw [Bool.and_eq_true] at h
  have a1 := of_decide_eq_true h.1
  have a2 := of_decide_eq_true h.2
  exact ⟨z.toNat, by omega, by omega⟩
theorem RowsAt.one {tl : Addr} {H : Hp} {qs : List Addr} {x : List Int} (h : RowsAt tl H qs [x]) (hx : TokenNeutral.long x 160 0 255 = true) : ∃ q, qs = [q] ∧ RowAt H q (TokenNeutral.text x) ∧ q ≠ tl := by
  match qs, h with
  | [q], h =>
    obtain ⟨h1, h2⟩ := h.2 0 q x rfl rfl
    refine ⟨q, rfl, ?_, h2⟩
    show H q = _
    rw [h1, (long_row hx).1]
  | [], h => exact absurd h.1 (by simp)
  | _ :: _ :: _, h => exact absurd h.1 (by simp)
theorem RowsAt.two {tl : Addr} {H : Hp} {qs : List Addr} {x y : List Int} (h : RowsAt tl H qs [x, y]) (hx : TokenNeutral.long x 160 0 255 = true) (hy : TokenNeutral.long y 160 0 255 = true) : ∃ q r, qs = [q, r] ∧ RowAt H q (TokenNeutral.text x) ∧ RowAt H r (TokenNeutral.text y) := by
  match qs, h with
  | [q, r], h =>
    obtain ⟨h1, h2⟩ := h.2 0 q x rfl rfl
    obtain ⟨h3, h4⟩ := h.2 1 r y rfl rfl
    refine ⟨q, r, rfl, ?_, ?_⟩
    · show H q = _
      rw [h1, (long_row hx).1]
    · show H r = _
      rw [h3, (long_row hy).1]
  | [], h => exact absurd h.1 (by simp)
  | [_], h => exact absurd h.1 (by simp)
  | _ :: _ :: _ :: _, h => exact absurd h.1 (by simp)
def spCall (CS : Addr) : Sp := fun vs H Q _ => ∃ (tl sv na ra : Addr) (st : Nt.Service) (p : Int) (a : List Int) (xs : List (List Int)) (qs : List Addr), vs = [.ref sv, .int p, .ref na, .ref ra] ∧ SvAt CS tl H sv st ∧ H na = some (.lst (a.map V.int)) ∧ H ra = some (.lst (qs.map V.ref)) ∧ RowsAt tl H qs xs ∧
  TokenNeutral.asked1 ((p :: a) :: xs) = true ∧ ∀ nc, TokenNeutral.callOf ((p :: a) :: xs) = some nc → Post CS tl H sv st nc Q
section
variable {P : Program} {w : World} {K : PySem.W.Frag} {mg : Str → Option Value} {base : Heap} {CC CT CQ CS CR : Addr}
theorem g_call (T : Txt K mg CC CT CQ CS CR) : Gf P w K mg base 6 "answer_call" ["service", "call", "numbers", "rows"] (spCall CS) := by
  refine T.d_answer_call.gf sc_answer_call (fun vs H Q E h => ?_) (fun f cdv A outer s H vs Q E hr h => ?_)
  · obtain ⟨tl, sv, na, ra, st, p, a, xs, qs, rfl, _⟩ := h
    rfl
  · obtain ⟨tl, sv, na, ra, st, p, a, xs, qs, rfl, hS, hna, hra, hR, h, q⟩ := h
    obtain ⟨ok, dx, d1, d2, d3, k1', hp, _⟩ := id hS
    refine ⟨_, pss_cons (ps_if (pt_cmpR op_eq (pv 1) (pk T.c_INIT) (nomark _)) (pss_one (ps_ret (pm0 (g_begin T) hr T.cl_Service (pv 0)))) pss_nil)
      (pss_cons (ps_if (pt_cmpR op_eq (pv 1) (pk T.c_ROOT) (nomark _)) (pss_one (ps_ret (pm (g_setkey T) hr T.cl_Service (pv 0) (pa_cons (pe_ix ix_list (pv 2) pe_int (fun _ _ => rfl)) (pa_cons (pe_ix ix_list (pv 3) pe_int (fun _ _ => rfl)) pa_nil))))) pss_nil)
      (pss_cons (ps_if (pt_cmpR op_eq (pv 1) (pk T.c_UNROOT) (nomark _)) (pss_one (ps_ret (pm (g_takekey T) hr T.cl_Service (pv 0) (pa_cons (pe_ix ix_list (pv 2) pe_int (fun _ _ => rfl)) pa_nil)))) pss_nil)
      (pss_cons (ps_if (pt_cmpR op_eq (pv 1) (pk T.c_ISSUE) (nomark _)) (pss_one (ps_ret (pm (g_issue T) hr T.cl_Service (pv 0) (pa_cons (pe_ix ix_list (pv 2) pe_int (fun _ _ => rfl)) (pa_cons (pe_ix ix_list (pv 2) pe_int (fun _ _ => rfl)) (pa_cons (pe_ix ix_list (pv 2) pe_int (fun _ _ => rfl)) pa_nil)))))) pss_nil)
      (pss_cons (ps_if (pt_cmpR op_eq (pv 1) (pk T.c_CHECK) (nomark _)) (pss_one (ps_ret (pf (g_check T) hr (pa_cons (pe_ix ix_list (pv 3) pe_int (fun _ _ => rfl)) pa_nil)))) pss_nil)
      (pss_cons (ps_if (pt_cmpR op_eq (pv 1) (pk T.c_NARROW) (nomark _)) (pss_one (ps_ret (pf (g_narrow T) hr (pa_cons (pe_ix ix_list (pv 2) pe_int (fun _ _ => rfl)) (pa_cons (pe_ix ix_list (pv 3) pe_int (fun _ _ => rfl)) (pa_cons (pe_ix ix_list (pv 3) pe_int (fun _ _ => rfl)) pa_nil)))))) pss_nil)
      (pss_cons (ps_if (pt_cmpR op_eq (pv 1) (pk T.c_ALLOW) (nomark _)) (pss_one (ps_ret (pm (g_allow T) hr T.cl_Service (pv 0) (pa_cons (pe_ix ix_list (pv 2) pe_int (fun _ _ => rfl)) (pa_cons (pe_ix ix_list (pv 2) pe_int (fun _ _ => rfl)) (pa_cons (pe_ix ix_list (pv 3) pe_int (fun _ _ => rfl)) (pa_cons (pe_ix ix_list (pv 3) pe_int (fun _ _ => rfl)) pa_nil))))))) pss_nil)
      (pss_cons (ps_if (pt_cmpR op_eq (pv 1) (pk T.c_REVOKE) (nomark _)) (pss_one (ps_ret (pm (g_revoke T) hr T.cl_Service (pv 0) (pa_cons (pe_ix ix_list (pv 2) pe_int (fun _ _ => rfl)) (pa_cons (pe_ix ix_list (pv 2) pe_int (fun _ _ => rfl)) (pa_cons (pe_ix ix_list (pv 2) pe_int (fun _ _ => rfl)) pa_nil)))))) pss_nil)
      (pss_cons (ps_if (pt_cmpR op_eq (pv 1) (pk T.c_USES) (nomark _)) (pss_one (ps_ret (pm (g_uses T) hr T.cl_Service (pv 0) (pa_cons (pe_ix ix_list (pv 2) pe_int (fun _ _ => rfl)) (pa_cons (pe_ix ix_list (pv 2) pe_int (fun _ _ => rfl)) (pa_cons (pe_ix ix_list (pv 2) pe_int (fun _ _ => rfl)) pa_nil)))))) pss_nil)
      (pss_cons (ps_if (pt_cmpR op_eq (pv 1) (pk T.c_RIGHT) (nomark _)) (pss_one (ps_ret (pm (g_sealright T) hr T.cl_Service (pv 0) (pa_cons (pe_ix ix_list (pv 3) pe_int (fun _ _ => rfl)) pa_nil)))) pss_nil)
      (pss_cons (ps_if (pt_cmpR op_eq (pv 1) (pk T.c_SUM) (nomark _)) (pss_one (ps_ret (pf (g_tell T) hr (pa_cons (pe_ix ix_list (pv 3) pe_int (fun _ _ => rfl)) pa_nil)))) pss_nil)
      (pss_one (ps_ret (pf (g_parts T) hr (pa_cons (pe_ix ix_list (pv 3) pe_int (fun _ _ => rfl)) pa_nil)))))))))))))), ?_⟩
    unfold TokenNeutral.asked1 at h
    split at h
    · rename_i heq
      cases heq
      have q := q _ rfl
      refine ⟨_, rfl, rfl, _, rfl, iteT ?_⟩
      exact ⟨_, rfl, sv, dx, _, rfl, hp, rfl, tl, sv, st, rfl, hS, q⟩
    · rename_i heq
      cases heq
      rw [Bool.and_eq_true] at h
      obtain ⟨r, rfl, hr1⟩ := whole_nat h.1
      obtain ⟨k1, rfl, hk1, ntl⟩ := hR.one h.2
      have q := q _ rfl
      refine ⟨_, rfl, rfl, _, rfl, iteF ?_⟩
      refine ⟨_, rfl, rfl, _, rfl, iteT ?_⟩
      exact ⟨_, rfl, sv, dx, _, rfl, hp, rfl, _, rfl, na, _, _, _, rfl, rfl, SqL.of hna, at_of (j := 0) rfl rfl, _, rfl, ra, _, _, _, rfl, rfl, SqL.of hra, at_of (j := 0) rfl rfl, tl, sv, k1, st, r, _, rfl, hS, hk1, ntl, q⟩
    · rename_i heq
      cases heq
      obtain ⟨r, rfl, hr1⟩ := whole_nat h
      have q := q _ rfl
      refine ⟨_, rfl, rfl, _, rfl, iteF ?_⟩
      refine ⟨_, rfl, rfl, _, rfl, iteF ?_⟩
      refine ⟨_, rfl, rfl, _, rfl, iteT ?_⟩
      exact ⟨_, rfl, sv, dx, _, rfl, hp, rfl, _, rfl, na, _, _, _, rfl, rfl, SqL.of hna, at_of (j := 0) rfl rfl, tl, sv, st, r, rfl, hS, q⟩
    · rename_i heq
      cases heq
      rw [Bool.and_eq_true, Bool.and_eq_true] at h
      obtain ⟨r, rfl, hr1⟩ := whole_nat h.1.1
      obtain ⟨hi, rfl, hh1⟩ := whole_nat h.1.2
      obtain ⟨lo, rfl, hl1⟩ := whole_nat h.2
      have q := q _ rfl
      refine ⟨_, rfl, rfl, _, rfl, iteF ?_⟩
      refine ⟨_, rfl, rfl, _, rfl, iteF ?_⟩
      refine ⟨_, rfl, rfl, _, rfl, iteF ?_⟩
      refine ⟨_, rfl, rfl, _, rfl, iteT ?_⟩
      exact ⟨_, rfl, sv, dx, _, rfl, hp, rfl, _, rfl, na, _, _, _, rfl, rfl, SqL.of hna, at_of (j := 0) rfl rfl, _, rfl, na, _, _, _, rfl, rfl, SqL.of hna, at_of (j := 1) rfl rfl, _, rfl, na, _, _, _, rfl, rfl, SqL.of hna, at_of (j := 2) rfl rfl, tl, sv, st, r, hi, lo, rfl, hS, hh1, hl1, q⟩
    · rename_i heq
      cases heq
      obtain ⟨k1, rfl, hk1, ntl⟩ := hR.one h
      have q := q _ rfl
      refine ⟨_, rfl, rfl, _, rfl, iteF ?_⟩
      refine ⟨_, rfl, rfl, _, rfl, iteF ?_⟩
      refine ⟨_, rfl, rfl, _, rfl, iteF ?_⟩
      refine ⟨_, rfl, rfl, _, rfl, iteF ?_⟩
      refine ⟨_, rfl, rfl, _, rfl, iteT ?_⟩
      exact ⟨_, rfl, ra, _, _, _, rfl, rfl, SqL.of hra, at_of (j := 0) rfl rfl, k1, _, rfl, hk1, fun H1 p1 s1 r1 => q.same hS rfl s1 r1⟩
    · rename_i heq
      cases heq
      rw [Bool.and_eq_true, Bool.and_eq_true] at h
      obtain ⟨k, rfl, hk0⟩ := whole_nat h.1.1
      obtain ⟨k1, k2, rfl, hk1, hk2⟩ := hR.two h.1.2 h.2
      have q := q _ rfl
      refine ⟨_, rfl, rfl, _, rfl, iteF ?_⟩
      refine ⟨_, rfl, rfl, _, rfl, iteF ?_⟩
      refine ⟨_, rfl, rfl, _, rfl, iteF ?_⟩
      refine ⟨_, rfl, rfl, _, rfl, iteF ?_⟩
      refine ⟨_, rfl, rfl, _, rfl, iteF ?_⟩
      refine ⟨_, rfl, rfl, _, rfl, iteT ?_⟩
      exact ⟨_, rfl, na, _, _, _, rfl, rfl, SqL.of hna, at_of (j := 0) rfl rfl, _, rfl, ra, _, _, _, rfl, rfl, SqL.of hra, at_of (j := 0) rfl rfl, _, rfl, ra, _, _, _, rfl, rfl, SqL.of hra, at_of (j := 1) rfl rfl, k, k1, k2, _, _, rfl, hk1, hk2, fun H1 p1 s1 r1 => q.same hS rfl s1 r1⟩
    · rename_i heq
      cases heq
      rw [Bool.and_eq_true, Bool.and_eq_true, Bool.and_eq_true] at h
      obtain ⟨n, rfl, hn1⟩ := whole_nat h.1.1.1
      obtain ⟨o, rfl, ho1⟩ := whole_nat h.1.1.2
      obtain ⟨k1, k2, rfl, hk1, hk2⟩ := hR.two h.1.2 h.2
      have q := q _ rfl
      refine ⟨_, rfl, rfl, _, rfl, iteF ?_⟩
      refine ⟨_, rfl, rfl, _, rfl, iteF ?_⟩
      refine ⟨_, rfl, rfl, _, rfl, iteF ?_⟩
      refine ⟨_, rfl, rfl, _, rfl, iteF ?_⟩
      refine ⟨_, rfl, rfl, _, rfl, iteF ?_⟩
      refine ⟨_, rfl, rfl, _, rfl, iteF ?_⟩
      refine ⟨_, rfl, rfl, _, rfl, iteT ?_⟩
      exact ⟨_, rfl, sv, dx, _, rfl, hp, rfl, _, rfl, na, _, _, _, rfl, rfl, SqL.of hna, at_of (j := 0) rfl rfl, _, rfl, na, _, _, _, rfl, rfl, SqL.of hna, at_of (j := 1) rfl rfl, _, rfl, ra, _, _, _, rfl, rfl, SqL.of hra, at_of (j := 0) rfl rfl, _, rfl, ra, _, _, _, rfl, rfl, SqL.of hra, at_of (j := 1) rfl rfl, tl, sv, k1, k2, st, n, o, _, _, rfl, hS, hk1, hk2, q⟩
    · rename_i heq
      cases heq
      rw [Bool.and_eq_true, Bool.and_eq_true] at h
      obtain ⟨r, rfl, hr1⟩ := whole_nat h.1.1
      obtain ⟨hi, rfl, hh1⟩ := whole_nat h.1.2
      obtain ⟨lo, rfl, hl1⟩ := whole_nat h.2
      have q := q _ rfl
      refine ⟨_, rfl, rfl, _, rfl, iteF ?_⟩
      refine ⟨_, rfl, rfl, _, rfl, iteF ?_⟩
      refine ⟨_, rfl, rfl, _, rfl, iteF ?_⟩
      refine ⟨_, rfl, rfl, _, rfl, iteF ?_⟩
      refine ⟨_, rfl, rfl, _, rfl, iteF ?_⟩
      refine ⟨_, rfl, rfl, _, rfl, iteF ?_⟩
      refine ⟨_, rfl, rfl, _, rfl, iteF ?_⟩
      refine ⟨_, rfl, rfl, _, rfl, iteT ?_⟩
      exact ⟨_, rfl, sv, dx, _, rfl, hp, rfl, _, rfl, na, _, _, _, rfl, rfl, SqL.of hna, at_of (j := 0) rfl rfl, _, rfl, na, _, _, _, rfl, rfl, SqL.of hna, at_of (j := 1) rfl rfl, _, rfl, na, _, _, _, rfl, rfl, SqL.of hna, at_of (j := 2) rfl rfl, tl, sv, st, r, hi, lo, rfl, hS, q⟩
    · rename_i heq
      cases heq
      rw [Bool.and_eq_true, Bool.and_eq_true] at h
      obtain ⟨r, rfl, hr1⟩ := whole_nat h.1.1
      obtain ⟨hi, rfl, hh1⟩ := whole_nat h.1.2
      obtain ⟨lo, rfl, hl1⟩ := whole_nat h.2
      have q := q _ rfl
      refine ⟨_, rfl, rfl, _, rfl, iteF ?_⟩
      refine ⟨_, rfl, rfl, _, rfl, iteF ?_⟩
      refine ⟨_, rfl, rfl, _, rfl, iteF ?_⟩
      refine ⟨_, rfl, rfl, _, rfl, iteF ?_⟩
      refine ⟨_, rfl, rfl, _, rfl, iteF ?_⟩
      refine ⟨_, rfl, rfl, _, rfl, iteF ?_⟩
      refine ⟨_, rfl, rfl, _, rfl, iteF ?_⟩
      refine ⟨_, rfl, rfl, _, rfl, iteF ?_⟩
      refine ⟨_, rfl, rfl, _, rfl, iteT ?_⟩
      exact ⟨_, rfl, sv, dx, _, rfl, hp, rfl, _, rfl, na, _, _, _, rfl, rfl, SqL.of hna, at_of (j := 0) rfl rfl, _, rfl, na, _, _, _, rfl, rfl, SqL.of hna, at_of (j := 1) rfl rfl, _, rfl, na, _, _, _, rfl, rfl, SqL.of hna, at_of (j := 2) rfl rfl, tl, sv, st, r, hi, lo, rfl, hS, q⟩
    · rename_i heq
      cases heq
      obtain ⟨k1, rfl, hk1, ntl⟩ := hR.one h
      have q := q _ rfl
      refine ⟨_, rfl, rfl, _, rfl, iteF ?_⟩
      refine ⟨_, rfl, rfl, _, rfl, iteF ?_⟩
      refine ⟨_, rfl, rfl, _, rfl, iteF ?_⟩
      refine ⟨_, rfl, rfl, _, rfl, iteF ?_⟩
      refine ⟨_, rfl, rfl, _, rfl, iteF ?_⟩
      refine ⟨_, rfl, rfl, _, rfl, iteF ?_⟩
      refine ⟨_, rfl, rfl, _, rfl, iteF ?_⟩
      refine ⟨_, rfl, rfl, _, rfl, iteF ?_⟩
      refine ⟨_, rfl, rfl, _, rfl, iteF ?_⟩
      refine ⟨_, rfl, rfl, _, rfl, iteT ?_⟩
      exact ⟨_, rfl, sv, dx, _, rfl, hp, rfl, _, rfl, ra, _, _, _, rfl, rfl, SqL.of hra, at_of (j := 0) rfl rfl, tl, sv, k1, st, _, rfl, hS, hk1, q⟩
    · rename_i heq
      cases heq
      obtain ⟨k1, rfl, hk1, ntl⟩ := hR.one h
      have q := q _ rfl
      refine ⟨_, rfl, rfl, _, rfl, iteF ?_⟩
      refine ⟨_, rfl, rfl, _, rfl, iteF ?_⟩
      refine ⟨_, rfl, rfl, _, rfl, iteF ?_⟩
      refine ⟨_, rfl, rfl, _, rfl, iteF ?_⟩
      refine ⟨_, rfl, rfl, _, rfl, iteF ?_⟩
      refine ⟨_, rfl, rfl, _, rfl, iteF ?_⟩
      refine ⟨_, rfl, rfl, _, rfl, iteF ?_⟩
      refine ⟨_, rfl, rfl, _, rfl, iteF ?_⟩
      refine ⟨_, rfl, rfl, _, rfl, iteF ?_⟩
      refine ⟨_, rfl, rfl, _, rfl, iteF ?_⟩
      refine ⟨_, rfl, rfl, _, rfl, iteT ?_⟩
      exact ⟨_, rfl, ra, _, _, _, rfl, rfl, SqL.of hra, at_of (j := 0) rfl rfl, k1, _, rfl, hk1, fun H1 p1 s1 r1 => q.same hS rfl s1 r1⟩
    · rename_i heq
      cases heq
      obtain ⟨k1, rfl, hk1, ntl⟩ := hR.one h
      have q := q _ rfl
      refine ⟨_, rfl, rfl, _, rfl, iteF ?_⟩
      refine ⟨_, rfl, rfl, _, rfl, iteF ?_⟩
      refine ⟨_, rfl, rfl, _, rfl, iteF ?_⟩
      refine ⟨_, rfl, rfl, _, rfl, iteF ?_⟩
      refine ⟨_, rfl, rfl, _, rfl, iteF ?_⟩
      refine ⟨_, rfl, rfl, _, rfl, iteF ?_⟩
      refine ⟨_, rfl, rfl, _, rfl, iteF ?_⟩
      refine ⟨_, rfl, rfl, _, rfl, iteF ?_⟩
      refine ⟨_, rfl, rfl, _, rfl, iteF ?_⟩
      refine ⟨_, rfl, rfl, _, rfl, iteF ?_⟩
      refine ⟨_, rfl, rfl, _, rfl, iteF ?_⟩
      exact ⟨_, rfl, ra, _, _, _, rfl, rfl, SqL.of hra, at_of (j := 0) rfl rfl, k1, _, rfl, hk1, (long_row h).2, fun H1 p1 s1 r1 => q.same hS rfl s1 r1⟩
    · cases h
end
end NT
set_option Elab.async false
set_option linter.all false
set_option maxRecDepth 100000
set_option maxHeartbeats 2000000
namespace NT
open PySem PySem.Spec PyProof.Rows L2
abbrev tabN : List Int := [0, 1, 1, 3, 0, 1, 2, 3, 3, 0, 0, 0]
abbrev tabR : List Int := [0, 1, 0, 0, 1, 2, 2, 0, 0, 1, 1, 1]
theorem shape_tab {p : Int} {n k : Nat} (h : PyWqandm.shape p = some (n, k)) : ∃ j : Nat, p = (j : Int) ∧ j < 12 ∧ tabN[j]? = some (n : Int) ∧ tabR[j]? = some (k : Int) := by
  unfold PyWqandm.shape at h
  by_cases c : p = 0
  · rw [if_pos c] at h; cases h; exact ⟨0, c, by decide, rfl, rfl⟩
  rw [if_neg c] at h; clear c
  by_cases c : p = 1
  · rw [if_pos c] at h; cases h; exact ⟨1, c, by decide, rfl, rfl⟩
  rw [if_neg c] at h; clear c
  by_cases c : p = 2
  · rw [if_pos c] at h; cases h; exact ⟨2, c, by decide, rfl, rfl⟩
  rw [if_neg c] at h; clear c
  by_cases c : p = 3
  · rw [if_pos c] at h; cases h; exact ⟨3, c, by decide, rfl, rfl⟩
  rw [if_neg c] at h; clear c
  by_cases c : p = 4
  · rw [if_pos c] at h; cases h; exact ⟨4, c, by decide, rfl, rfl⟩
  rw [if_neg c] at h; clear c
  by_cases c : p = 5
  · rw [if_pos c] at h; cases h; exact ⟨5, c, by decide, rfl, rfl⟩
  rw [if_neg c] at h; clear c
  by_cases c : p = 6
  · rw [if_pos c] at h; cases h; exact ⟨6, c, by decide, rfl, rfl⟩
  rw [if_neg c] at h; clear c
  by_cases c : p = 7
  · rw [if_pos c] at h; cases h; exact ⟨7, c, by decide, rfl, rfl⟩
  rw [if_neg c] at h; clear c
  by_cases c : p = 8
  · rw [if_pos c] at h; cases h; exact ⟨8, c, by decide, rfl, rfl⟩
  rw [if_neg c] at h; clear c
  by_cases c : p = 9
  · rw [if_pos c] at h; cases h; exact ⟨9, c, by decide, rfl, rfl⟩
  rw [if_neg c] at h; clear c
  by_cases c : p = 10
  · rw [if_pos c] at h; cases h; exact ⟨10, c, by decide, rfl, rfl⟩
  rw [if_neg c] at h; clear c
  by_cases c : p = 11
  · rw [if_pos c] at h; cases h; exact ⟨11, c, by decide, rfl, rfl⟩
  rw [if_neg c] at h
  cases h
/-- behind a call: all as it was but the service, its dicts and the reader -/
def KeepR (CS rd : Addr) (H H' : Hp) : Prop := ∀ b o, H b = some o → Fx CS o → b ≠ rd → H' b = some o
theorem sq_keep {K : PySem.W.Frag} {H H' : Hp} {ca rd CS C dx : Addr} {xs : List V} {fs : List (Str × V)} (h : SqL K H ca xs) (k : KeepR CS rd H H') (hr : H rd = some (.ins C dx fs)) : SqL K H' ca xs := by
  rcases h with (h | ⟨u, h⟩) | h
  · exact .inl (.inl (k _ _ h trivial (ne_of h hr (by intro z; cases z))))
  · exact .inl (.inr ⟨u, k _ _ h trivial (ne_of h hr (by intro z; cases z))⟩)
  · exact .inr h
theorem SvAt.keepR {CS CR tl rd dr : Addr} {H H' : Hp} {sv : Addr} {st : Nt.Service} {fs : List (Str × V)} (h : SvAt CS tl H sv st) (hr : H rd = some (.ins CR dr fs)) (ne : CR ≠ CS) (s : ∀ b o, H b = some o → b ≠ rd → H' b = some o) : SvAt CS tl H' sv st := by
  obtain ⟨ok, dx, d1, d2, d3, k1, h1, h2, h3, h4, h5, h6⟩ := h
  refine ⟨ok, dx, d1, d2, d3, k1, s _ _ h1 (ne_of h1 hr fun z => ?_), s _ _ h2 (ne_of h2 hr (by intro z; cases z)), s _ _ h3 (ne_of h3 hr (by intro z; cases z)), s _ _ h4 (ne_of h4 hr (by intro z; cases z)), h5, ⟨h6.nd, h6.low, h6.no, fun r key e => ?_⟩⟩
  · injection z with z1
    exact ne z1.symm
  · obtain ⟨a, a1, a2, a3, a4⟩ := h6.yes r key e
    exact ⟨a, a1, s _ _ a2 (ne_of a2 hr (by intro z; cases z)), a3, a4⟩
def spNext (K : PySem.W.Frag) (CS CR : Addr) : Sp := fun vs H Q _ => ∃ (tl sv rd dr ca : Addr) (l rest : List Int) (pl : Nat) (c : List (List Int)) (st : Nt.Service) (us : List V), vs = [.ref sv, .ref rd] ∧ SvAt CS tl H sv st ∧ H rd = some (.ins CR dr (rf (.ref ca) (.int (pl : Int)))) ∧ SqL K H ca (l.map V.int) ∧ l.length ≤ 30000 ∧
  l.drop pl = PyFlat.put1 c ++ rest ∧ PyFlat.okCall PyWqandm.shape c ∧ TokenNeutral.asked1 c = true ∧ H tl = some (.lst us) ∧
  ∀ nc, TokenNeutral.callOf c = some nc → ∀ (H' : Hp) (p : Addr), KeepR CS rd H H' → H' rd = some (.ins CR dr (rf (.ref ca) (.int ((pl + (PyFlat.put1 c).length : Nat) : Int)))) → SvAt CS tl H' sv (NtDesk.step st nc).1 → AnsAt H' p (NtDesk.step st nc).2 → tl ≠ p → Q (.ref p) H'
theorem RowsAt.snoc {tl : Addr} {H : Hp} {qs : List Addr} {xs : List (List Int)} {q : Addr} {x : List Int} (h : RowsAt tl H qs xs) (h1 : H q = some (.lst (x.map V.int))) (h2 : q ≠ tl) : RowsAt tl H (qs ++ [q]) (xs ++ [x]) := by
  refine ⟨by rw [List.length_append, List.length_append, h.1]; rfl, fun i p d e1 e2 => ?_⟩
  by_cases hi : i < qs.length
  · rw [List.getElem?_append_left hi] at e1
    rw [List.getElem?_append_left (by rw [← h.1]; exact hi)] at e2
    exact h.2 i p d e1 e2
  · rw [List.getElem?_append_right (by omega)] at e1
    rw [List.getElem?_append_right (by rw [← h.1]; omega)] at e2
    have z : i - qs.length = 0 := by
      have := (List.getElem?_eq_some_iff.mp e1).1
      simp at this
      omega
    rw [← h.1, z] at e2
    rw [z] at e1
    have a1 : q = p := Option.some.inj e1
    have a2 : x = d := Option.some.inj e2
    subst a1
    subst a2
    exact ⟨h1, h2⟩
theorem putRows_snoc (xs : List (List Int)) (x : List Int) : PyFlat.putRows (xs ++ [x]) = PyFlat.putRows xs ++ PyFlat.putRow x := by
  induction xs with
  | nil => show PyFlat.putRow x ++ [] = _; rw [List.append_nil]; rfl
  | cons y r ih =>
    show PyFlat.putRow y ++ PyFlat.putRows (r ++ [x]) = PyFlat.putRow y ++ PyFlat.putRows r ++ PyFlat.putRow x
    rw [ih, List.append_assoc]
theorem putRows_split {xs : List (List Int)} {i : Nat} {x : List Int} (h : xs[i]? = some x) : PyFlat.putRows xs = PyFlat.putRows (xs.take i) ++ (PyFlat.putRow x ++ PyFlat.putRows (xs.drop (i + 1))) := by
  induction xs generalizing i with
  | nil => simp at h
  | cons y r ih =>
    cases i with
    | zero =>
      have e : y = x := Option.some.inj h
      subst e
      rfl
    | succ i =>
      show PyFlat.putRow y ++ PyFlat.putRows r = (PyFlat.putRow y ++ PyFlat.putRows (r.take i)) ++ _
      rw [ih (show r[i]? = some x from h), List.append_assoc]
      rfl
theorem rows_len : ∀ xs : List (List Int), xs.length ≤ (PyFlat.putRows xs).length
  | [] => Nat.le_refl _
  | y :: r => by
    have ih := rows_len r
    show r.length + 1 ≤ (PyFlat.putRow y ++ PyFlat.putRows r).length
    rw [List.length_append]
    show r.length + 1 ≤ (y.length + 1) + _
    omega
theorem drop_mid {l u v : List Int} {k : Nat} (h : l.drop k = u ++ v) : l.drop (k + u.length) = v := by
  rw [← List.drop_drop, h, List.drop_left]
section
variable {P : Program} {w : World} {K : PySem.W.Frag} {mg : Str → Option Value} {base : Heap} {CC CT CQ CS CR : Addr}
theorem cr_ne (T : Txt K mg CC CT CQ CS CR) : CR ≠ CS := fun e => by
  obtain ⟨f, fd, _, hm, _⟩ := T.d_Reader_at_end.ex
  have h1 := hm.at_
  have h2 := T.n_Service_at_end
  unfold NoAttr at h2
  rw [e, h2] at h1
  cases h1
theorem g_next (T : Txt K mg CC CT CQ CS CR) : Gf P w K mg base 7 "answer_next" ["service", "reader"] (spNext K CS CR) := by
  refine T.d_answer_next.gf sc_answer_next (fun vs H Q E h => ?_) (fun f cdv A outer s H vs Q E hr h => ?_)
  · obtain ⟨tl, sv, rd, dr, ca, l, rest, pl, c, st, us, rfl, _⟩ := h
    rfl
  · obtain ⟨tl, sv, rd, dr, ca, l, rest, pl, c, st, us, rfl, hS, hrd, hl, hlen, hd, hok, hask, htl, q⟩ := h
    obtain ⟨p, a, xs, rfl, hsh⟩ := hok
    obtain ⟨j, rfl, hj, tN, tR⟩ := shape_tab hsh
    obtain ⟨tn, hm1, hk1⟩ := T.c_HOW_MANY_NUMBERS
    obtain ⟨tr, hm2, hk2⟩ := T.c_HOW_MANY_ROWS
    have crne := cr_ne T
    refine ⟨_, pss_cons (ps_set (i := 2) sc_answer_next.nd rfl (Or.inl rfl) (pm0 (g_taken T) hr T.cl_Reader (pv 1)))
      (pss_cons (ps_if (pt_cmpR op_ge (pv 2) (plen T.b_len (pe_glob (v := .ref tn) rfl hm1 rfl)) (nomark _)) pss_never pss_nil)
      (pss_cons (ps_setLc (i := 3) (te := tMeth CR "take_number" (spTakeN K CR) [] E0 (tVar 1) tNil) (own := [("turn", 5)]) rfl sc_answer_next.nd rfl rfl (sw_true rfl rfl rfl rfl) (pi_range1 rfl T.b_range (pa_cons (pe_ix ix_tup (pe_glob (v := .ref tn) rfl hm1 rfl) (pv 2) (fun _ _ => rfl)) pa_nil)) (blkOk_by (N := ["service", "reader", "call", "numbers", "rows", "turn"]) (sc := defScope s_answer_next) (by decide +kernel))
          (fun _ _ _ _ _ => pg_name (i := 5) sc_answer_next.nd rfl (Or.inl rfl)) (fun _ _ _ _ _ => pts_nil) (fun _ _ _ _ _ => pm0 (g_taken T) hr T.cl_Reader (pv 1)))
      (pss_cons (ps_setLc (i := 4) (te := tMeth CR "take_row" (spTakeR K CR) [] E0 (tVar 1) tNil) (own := [("turn", 5)]) rfl sc_answer_next.nd rfl rfl (sw_true rfl rfl rfl rfl) (pi_range1 rfl T.b_range (pa_cons (pe_ix ix_tup (pe_glob (v := .ref tr) rfl hm2 rfl) (pv 2) (fun _ _ => rfl)) pa_nil)) (blkOk_by (N := ["service", "reader", "call", "numbers", "rows", "turn"]) (sc := defScope s_answer_next) (by decide +kernel))
          (fun _ _ _ _ _ => pg_name (i := 5) sc_answer_next.nd rfl (Or.inl rfl)) (fun _ _ _ _ _ => pts_nil) (fun _ _ _ _ _ => pm0 (g_taker T) hr T.cl_Reader (pv 1)))
      (pss_one (ps_ret (pf (g_call T) hr (pa_cons (pv 0) (pa_cons (pv 2) (pa_cons (pv 3) (pa_cons (pv 4) pa_nil)))))))))), ?_⟩
    have hd : l.drop pl = (j : Int) :: (a ++ (PyFlat.putRows xs ++ rest)) := by
      rw [hd]
      show (((j : Int) :: a) ++ PyFlat.putRows xs) ++ rest = _
      rw [List.append_assoc]
      rfl
    have at_ : ∀ i, l[pl + i]? = ((j : Int) :: (a ++ (PyFlat.putRows xs ++ rest)))[i]? := fun i => by rw [← hd, List.getElem?_drop]
    -- call = reader.take_number()
    refine ⟨_, rfl, rd, dr, _, rfl, hrd, rfl, rd, dr, ca, l, pl, (j : Int), rfl, hrd, hl, at_ 0, ?_⟩
    -- if call >= len(HOW_MANY_NUMBERS)
    refine ⟨_, rfl, tn, _, rfl, .inr (hk1.sq _), _, _, rfl, rfl, _, rfl, ite2 (fun z => ?_) (fun z => ?_)⟩
    · have z := of_decide_eq_true z
      rw [List.length_map] at z
      have z : (12 : Int) ≤ (j : Int) := z
      omega
    · have la : a.length ≤ 30000 := by
        have e := congrArg List.length hd
        rw [List.length_drop, List.length_cons, List.length_append] at e
        omega
      have lx : xs.length ≤ 30000 := by
        have e := rows_len xs
        have e2 := congrArg List.length hd
        rw [List.length_drop, List.length_cons, List.length_append, List.length_append] at e2
        omega
      have ntl : tl ≠ rd := ne_of htl hrd (by intro z; cases z)
      -- numbers = [..]
      refine ⟨_, rfl, tn, _, _, _, rfl, rfl, hk1.sq _, at_of (j := j) (v := V.int (a.length : Int)) rfl (by rw [List.getElem?_map, tN]; rfl), (a.length : Int), rfl, by omega, by omega, fun D hD => ?_⟩
      rw [Int.toNat_natCast]
      have hDr : D ≠ rd := fun z => by
        rw [z, upd_same] at hD
        cases hD
      have hD0 : H D = none := by
        rw [upd_ne hDr] at hD
        exact hD
      refine lc_range (lo := 0) (n := a.length) (fun i H' => H' D = some (.lst ((a.take i).map V.int)) ∧ H' rd = some (.ins CR dr (rf (.ref ca) (.int ((pl + 1 + i : Nat) : Int)))) ∧ ∀ b o, H b = some o → b ≠ rd → H' b = some o) ⟨upd_same, by rw [upd_ne hDr.symm, upd_same], fun b o e hb => by rw [upd_ne (ne_of_none e hD0), upd_ne hb]; exact e⟩ ?_ ?_
      · rintro i H' hi ⟨r1, r2, r3⟩
        have hai := List.getElem?_eq_getElem hi
        refine ⟨rfl, ?_⟩
        unfold tYes
        dsimp only
        rw [if_pos rfl]
        refine ⟨_, rfl, rd, dr, _, rfl, r2, rfl, rd, dr, ca, l, pl + 1 + i, a[i], rfl, r2, sq_keep (CS := CS) hl (fun b o e _ hb => r3 b o e hb) hrd, ?_, _, by rw [upd_ne hDr]; exact r1, ?_, ?_⟩
        · rw [show pl + 1 + i = pl + (i + 1) by omega, at_ (i + 1)]
          show (a ++ _)[i]? = _
          rw [List.getElem?_append_left hi, hai]
        · rw [List.length_map]
          exact Nat.lt_of_le_of_lt (Nat.le_trans (List.length_take_le' _ _) la) (by decide)
        · refine ⟨?_, ?_, fun b o e hb => ?_⟩
          · rw [upd_same, take_snoc hai, List.map_append]
            rfl
          · rw [upd_ne hDr.symm, upd_same]
            rfl
          · rw [upd_ne (ne_of_none e hD0), upd_ne hb]
            exact r3 b o e hb
      · rintro H1 ⟨r1, r2, r3⟩
        rw [List.take_length] at r1
        -- rows = [..]
        refine ⟨_, rfl, tr, _, _, _, rfl, rfl, hk2.sq _, at_of (j := j) (v := V.int (xs.length : Int)) rfl (by rw [List.getElem?_map, tR]; rfl), (xs.length : Int), rfl, by omega, by omega, fun D2 hD2 => ?_⟩
        rw [Int.toNat_natCast]
        have n2r : D2 ≠ rd := (ne_of_none r2 hD2).symm
        have n2D : D ≠ D2 := ne_of_none r1 hD2
        have hda : l.drop (pl + 1 + a.length) = PyFlat.putRows xs ++ rest := by
          have e := drop_mid (l := l) (u := (j : Int) :: a) (v := PyFlat.putRows xs ++ rest) (k := pl) (by rw [hd]; rfl)
          rw [show pl + ((j : Int) :: a).length = pl + 1 + a.length by rw [List.length_cons]; omega] at e
          exact e
        refine lc_range (lo := 0) (n := xs.length) (fun i H' => ∃ qs : List Addr, H' D2 = some (.lst (qs.map V.ref)) ∧ RowsAt tl (rm H' D2) qs (xs.take i) ∧ H' rd = some (.ins CR dr (rf (.ref ca) (.int ((pl + 1 + a.length + (PyFlat.putRows (xs.take i)).length : Nat) : Int)))) ∧ H' D = some (.lst (a.map V.int)) ∧ ∀ b o, H b = some o → b ≠ rd → H' b = some o)
          ⟨[], upd_same, ⟨rfl, fun i q x e => by simp at e⟩, by rw [upd_ne n2r.symm]; exact r2, by rw [upd_ne n2D]; exact r1, fun b o e hb => by rw [upd_ne (ne_of_none (r3 b o e hb) hD2)]; exact r3 b o e hb⟩ ?_ ?_
        · rintro i H' hi ⟨qs, w1, w2, w3, w4, w5⟩
          have hxi := List.getElem?_eq_getElem hi
          have hk : l.drop (pl + 1 + a.length + (PyFlat.putRows (xs.take i)).length) = PyFlat.putRow xs[i] ++ (PyFlat.putRows (xs.drop (i + 1)) ++ rest) := by
            refine drop_mid ?_
            rw [hda, putRows_split hxi]
            simp only [List.append_assoc]
          refine ⟨rfl, ?_⟩
          unfold tYes
          dsimp only
          rw [if_pos rfl]
          refine ⟨_, rfl, rd, dr, _, rfl, w3, rfl, rd, dr, ca, l, pl + 1 + a.length + (PyFlat.putRows (xs.take i)).length, xs[i].length, rfl, w3, sq_keep (CS := CS) hl (fun b o e _ hb => w5 b o e hb) hrd, ?_, fun H3 p np h1 h2 h3 => ?_⟩
          · have e : (l.drop (pl + 1 + a.length + (PyFlat.putRows (xs.take i)).length))[0]? = some (xs[i].length : Int) := by
              rw [hk]
              rfl
            rw [List.getElem?_drop, Nat.add_zero] at e
            exact e
          · have np2 : p ≠ D2 := (ne_of_none w1 np).symm
            have nptl : p ≠ tl := (ne_of_none (w5 _ _ htl ntl) np).symm
            have er : (l.drop (pl + 1 + a.length + (PyFlat.putRows (xs.take i)).length + 1)).take xs[i].length = xs[i] := by
              rw [← List.drop_drop, hk]
              show (xs[i] ++ _).take xs[i].length = _
              rw [List.take_left]
            rw [er] at h1
            have w1' := h3 _ _ w1 n2r
            refine ⟨_, w1', ?_, qs ++ [p], ?_, ?_, ?_, ?_, fun b o e hb => ?_⟩
            · rw [List.length_map, w2.1]
              exact Nat.lt_of_le_of_lt (Nat.le_trans (List.length_take_le' _ _) lx) (by decide)
            · rw [upd_same, List.map_append]
              rfl
            · rw [rm_upd, take_snoc hxi]
              refine RowsAt.snoc ⟨w2.1, fun i' q' x' e1 e2 => ?_⟩ (by rw [rm_at np2]; exact h1) nptl
              obtain ⟨y1, y2⟩ := w2.2 i' q' x' e1 e2
              obtain ⟨y3, y4⟩ := rm_some y1
              exact ⟨by rw [rm_at y3]; exact h3 _ _ y4 (ne_of y4 w3 (by intro z; cases z)), y2⟩
            · rw [upd_ne n2r.symm, h2, take_snoc hxi, putRows_snoc, List.length_append]
              have e : pl + 1 + a.length + (PyFlat.putRows (xs.take i)).length + 1 + xs[i].length = pl + 1 + a.length + ((PyFlat.putRows (xs.take i)).length + (PyFlat.putRow xs[i]).length) := by
                show _ = _ + (_ + (xs[i].length + 1))
                omega
              rw [e]
            · rw [upd_ne n2D]
              exact h3 _ _ w4 hDr
            · have e3 := w5 b o e hb
              have nb2 : b ≠ D2 := fun z => by
                subst z
                rw [r3 _ _ e hb] at hD2
                cases hD2
              rw [upd_ne nb2]
              exact h3 _ _ e3 hb
        · rintro H2 ⟨qs, w1, w2, w3, w4, w5⟩
          rw [List.take_length] at w2 w3
          refine ⟨_, rfl, _, rfl, _, rfl, _, rfl, tl, sv, D, D2, st, (j : Int), a, xs, qs, rfl, hS.keepR hrd crne w5, w4, w1, ⟨w2.1, fun i' q' x' e1 e2 => ?_⟩, hask, fun nc e H' p k S R => ?_⟩
          · obtain ⟨y1, y2⟩ := w2.2 i' q' x' e1 e2
            exact ⟨(rm_some y1).2, y2⟩
          · refine q nc e H' p (fun b o e fx hb => k.k _ _ (w5 b o e hb) fx) ?_ S R (k.n tl us (w5 _ _ htl ntl))
            rw [k.k _ _ w3 crne]
            have e : pl + 1 + a.length + (PyFlat.putRows xs).length = pl + (PyFlat.put1 (((j : Int) :: a) :: xs)).length := by
              show _ = pl + (((j : Int) :: a) ++ PyFlat.putRows xs).length
              rw [List.length_append, List.length_cons]
              omega
            rw [e]
end
end NT
set_option Elab.async false
set_option linter.all false
set_option maxRecDepth 100000
set_option maxHeartbeats 2000000
namespace NT
open PySem PySem.Spec PyProof.Rows L2
/-! ### how long an answer is -/
theorem told_len (a : NtDesk.Answer) : (TokenNeutral.told a).length = 1 + a.nums.length + a.out.length := by
  unfold TokenNeutral.told
  rw [List.length_cons, List.length_append, List.length_map, List.length_map]
  omega
theorem ofTok_len {b : List UInt8} {f : Nt.Token → NtDesk.Answer} (h : ∀ t, Nt.readToken b = some t → (TokenNeutral.told (f t)).length ≤ 299) : (TokenNeutral.told (NtDesk.ofToken b f)).length ≤ 299 := by
  cases e : Nt.readToken b with
  | none =>
    rw [ofTok_none e, told_len]
    decide
  | some t =>
    rw [ofTok_some e]
    exact h t e
theorem says_len (z : Int) : (TokenNeutral.told (NtDesk.says z)).length ≤ 299 := by
  rw [told_len]
  show 1 + 0 + 0 ≤ 299
  omega
theorem shows_len {b : List UInt8} (h : b.length ≤ 200) : (TokenNeutral.told (NtDesk.shows b)).length ≤ 299 := by
  rw [told_len]
  show 1 + 0 + b.length ≤ 299
  omega
theorem ans_len (st : Nt.Service) (c : NtDesk.Call) : (TokenNeutral.told (NtDesk.step st c).2).length ≤ 299 := by
  cases c with
  | init => exact says_len 0
  | root r k =>
    show (TokenNeutral.told (if _ then (_, _) else (_, _) : NtDesk.State × NtDesk.Answer).2).length ≤ 299
    by_cases h : Nt.ROOTS ≤ r ∨ k.length ≠ Nt.KEY
    · rw [if_pos h]
      exact says_len _
    · rw [if_neg h]
      exact says_len _
  | unroot r =>
    show (TokenNeutral.told (if _ then (_, _) else (_, _) : NtDesk.State × NtDesk.Answer).2).length ≤ 299
    by_cases h : Nt.ROOTS ≤ r
    · rw [if_pos h]
      exact says_len _
    · rw [if_neg h]
      exact says_len _
  | issue r h l =>
    show (TokenNeutral.told (match st.key r with
      | none => NtDesk.says (-1)
      | some k => NtDesk.shows (Nt.tokenBytes ⟨r, NtDesk.serialOf h l, [], Nt.sealed k r (NtDesk.serialOf h l)⟩))).length ≤ 299
    cases st.key r with
    | none => exact says_len _
    | some k =>
      refine shows_len ?_
      unfold Nt.tokenBytes
      rw [List.length_append, List.length_append, List.length_append, List.length_append, le_len, le_len, le_len]
      show 1 + (8 + (1 + (0 + (Nt.hashBytes _).length))) ≤ 200
      rw [hb_len]
      omega
  | check b => exact ofTok_len fun t _ => says_len _
  | narrow k b g =>
    refine ofTok_len fun t e => ?_
    obtain ⟨ok, few, hb⟩ := read_ok e
    by_cases h1 : 255 < k ∨ Nt.ARG < g.length
    · rw [if_pos h1]
      exact says_len _
    · rw [if_neg h1]
      by_cases h2 : Nt.CAVEATS ≤ t.caveats.length
      · rw [if_pos h2]
        exact says_len _
      · rw [if_neg h2]
        have h3 : ¬ 16 < g.length := fun z => h1 (.inr z)
        exact shows_len (tokBytes_few (narrowed_ok ok few ⟨by show k < 256; omega, by show g.length ≤ 16; omega⟩))
  | allow n o b p =>
    rw [told_len]
    show 1 + (st.judge b ⟨n, o, p⟩).2.toList.length + 0 ≤ 299
    cases (st.judge b ⟨n, o, p⟩).2 with
    | none => decide
    | some i =>
      show 1 + 1 + 0 ≤ 299
      omega
  | revoke r h l =>
    show (TokenNeutral.told (if _ then (_, _) else _ : NtDesk.State × NtDesk.Answer).2).length ≤ 299
    by_cases h1 : (st.key r).isNone = true
    · rw [if_pos h1]
      exact says_len _
    · rw [if_neg h1]
      by_cases h2 : st.gone.contains (r, NtDesk.serialOf h l) = true
      · rw [if_pos h2]
        exact says_len _
      · rw [if_neg h2]
        by_cases h3 : Nt.MOST ≤ st.gone.length
        · rw [if_pos h3]
          exact says_len _
        · rw [if_neg h3]
          exact says_len _
  | uses r h l =>
    show (TokenNeutral.told (if _ then _ else _ : NtDesk.Answer)).length ≤ 299
    by_cases h1 : (st.key r).isNone = true
    · rw [if_pos h1]
      exact says_len _
    · rw [if_neg h1]
      exact says_len _
  | sealRight b =>
    refine ofTok_len fun t _ => ?_
    cases st.key t.root with
    | none => exact says_len _
    | some k => exact says_len _
  | sum b =>
    rw [told_len]
    show 1 + 2 + 0 ≤ 299
    omega
  | parts b =>
    refine ofTok_len fun t e => ?_
    obtain ⟨ok, few, hb⟩ := read_ok e
    have h1 := hv_len t.caveats
    have h2 := avb_len ok.cavs
    unfold hv at h1
    rw [List.length_map] at h1
    rw [told_len]
    show 1 + (([t.root, t.serial / NtDesk.HALF, t.serial % NtDesk.HALF] ++ t.caveats.flatMap fun (c : Nt.Caveat) => [c.kind, c.arg.length]) : List Nat).length + (avb t.caveats).length ≤ 299
    rw [List.length_append, h1]
    show 1 + (3 + 2 * t.caveats.length) + _ ≤ 299
    omega
/-! ### the calls of a list -/
theorem whole_id (c : List (List Int)) : PyWqandm.whole c = c := by
  unfold PyWqandm.whole
  split <;> rfl
theorem asked_calls {l : List Int} (h : PyWqandm.answers_asked l = true) : ∃ cs, l = PyFlat.put cs ∧ (∀ c ∈ cs, PyFlat.okCall PyWqandm.shape c ∧ TokenNeutral.asked1 c = true) ∧ PyWqandm.answers l = PyFlat.told (PyFlat.played TokenNeutral.step TokenNeutral.start cs) := by
  unfold PyWqandm.answers_asked PyWqandm.calls at h
  unfold PyWqandm.answers PyWqandm.calls
  cases e : PyFlat.calls PyWqandm.shape l.length l with
  | none =>
    rw [e] at h
    cases h
  | some cs =>
    rw [e] at h
    have em : cs.map PyWqandm.whole = cs := by
      have e2 : PyWqandm.whole = id := funext whole_id
      rw [e2, List.map_id]
    have h : (PyFlat.atMost 200 (cs.map PyWqandm.whole) && TokenNeutral.asked (cs.map PyWqandm.whole)) = true := h
    rw [em, Bool.and_eq_true] at h
    have h2 := h.2
    unfold TokenNeutral.asked at h2
    rw [Bool.and_eq_true] at h2
    obtain ⟨a1, a2⟩ := PyFlat.put_calls _ _ _ e
    refine ⟨cs, a1, fun c hc => ⟨a2 c hc, List.all_eq_true.mp h2.2 c hc⟩, ?_⟩
    show PyFlat.told (PyFlat.played TokenNeutral.step TokenNeutral.start (cs.map PyWqandm.whole)) = _
    rw [em]
theorem call_of {c : List (List Int)} (h : TokenNeutral.asked1 c = true) : ∃ nc, TokenNeutral.callOf c = some nc := by
  unfold TokenNeutral.asked1 at h
  split at h
  all_goals first | exact ⟨_, rfl⟩ | cases h
theorem put1_pos {c : List (List Int)} (h : PyFlat.okCall PyWqandm.shape c) : 0 < (PyFlat.put1 c).length := by
  obtain ⟨p, a, xs, rfl, _⟩ := h
  show 0 < ((p :: a) ++ PyFlat.putRows xs).length
  rw [List.length_append, List.length_cons]
  omega
theorem told_cons (a : List Int) (r : List (List Int)) : PyFlat.told (a :: r) = (a.length : Int) :: (a ++ PyFlat.told r) := by
  unfold PyFlat.told
  rw [List.flatMap_cons]
  rfl
def spAns (K : PySem.W.Frag) : Sp := fun vs H Q _ => ∃ (a : Addr) (l : List Int), vs = [.ref a] ∧ SqL K H a (l.map V.int) ∧ l.length ≤ 30000 ∧ PyWqandm.answers_asked l = true ∧ ∀ (H' : Hp) (p : Addr), H' p = some (.lst ((PyWqandm.answers l).map V.int)) → Q (.ref p) H'
/-- between two calls -/
structure Loop (K : PySem.W.Frag) (CS CR a sv rd tl : Addr) (l : List Int) (m : Nat) (σ : L2.St) (H : Hp) : Prop where
  ex : ∃ (v : Option V) (dr : Addr) (pl : Nat) (cs : List (List (List Int))) (st : Nt.Service) (out : List Int), σ = [some (.ref a), some (.ref sv), some (.ref rd), some (.ref tl), v] ∧ SvAt CS tl H sv st ∧ H rd = some (.ins CR dr (rf (.ref a) (.int (pl : Int)))) ∧ SqL K (rm H tl) a (l.map V.int) ∧
    H tl = some (.lst (out.map V.int)) ∧ l.drop pl = PyFlat.put cs ∧ (∀ c ∈ cs, PyFlat.okCall PyWqandm.shape c ∧ TokenNeutral.asked1 c = true) ∧ out ++ PyFlat.told (PyFlat.played TokenNeutral.step st cs) = PyWqandm.answers l ∧ out.length ≤ 300 * pl ∧ pl ≤ l.length ∧ m = l.length - pl
section
variable {P : Program} {w : World} {K : PySem.W.Frag} {mg : Str → Option Value} {base : Heap} {CC CT CQ CS CR : Addr}
theorem ok_answers (T : Txt K mg CC CT CQ CS CR) {f : Addr} {fd : FuncData} (F : Fun K "answers" "answers" s_answers f fd) : FnOk P w K mg base CX0 8 f fd ["calls"] (spAns K) := by
  refine F.ok sc_answers (fun vs H Q E h => ?_) (fun cdv A outer s H vs Q E hr h => ?_)
  · obtain ⟨a, l, rfl, _⟩ := h
    rfl
  · obtain ⟨a, l, rfl, hl, hlen, hask, q⟩ := h
    obtain ⟨cs0, hcs, hall, hans⟩ := asked_calls hask
    have crne := cr_ne T
    refine ⟨_, pss_cons (ps_set (i := 1) sc_answers.nd rfl (Or.inl rfl) (pn0 (g_Service T) hr T.mg_Service))
      (pss_cons (ps_set (i := 2) sc_answers.nd rfl (Or.inl rfl) (pn (g_Reader T) hr T.mg_Reader (pa_cons (pv 0) pa_nil)))
      (pss_cons (ps_set (i := 3) sc_answers.nd rfl (Or.inl rfl) (pe_lst pa_nil))
      (pss_cons (ps_while PassesOwn.never (pt_not (pt_val (pm0 (g_atend T) hr T.cl_Reader (pv 2))))
        (pss_cons (ps_set (i := 4) sc_answers.nd rfl (Or.inl rfl) (pf (g_next T) hr (pa_cons (pv 1) (pa_cons (pv 2) pa_nil))))
        (pss_cons (ps_expr (pe_bm PySem.F.plainAttrs_list PySem.F.slot_list_append PySem.F.type_list_append mt_append (pv 3) (pa_cons (plen T.b_len (pv 4)) pa_nil)))
        (pss_one (ps_expr (pe_bm PySem.F.plainAttrs_list PySem.F.slot_list_extend PySem.F.type_list_extend mt_extend (pv 3) (pa_cons (pv 4) pa_nil)))))))
      (pss_one (ps_ret (pv 3)))))), ?_⟩
    intro sv dx n1 n2 ne1
    refine ⟨sv, dx, rfl, upd_same, fun H1 d1 d2 d3 n23 e0 e1 e2 e3 fr => ⟨rfl, ?_⟩⟩
    have s1 : Same H H1 := Same.made n1 n2 fr
    refine ⟨_, rfl, ?_⟩
    intro rd dr m1 m2 me
    refine ⟨rd, dr, _, rfl, upd_same, rfl, ?_⟩
    rw [upd_upd]
    have s2 := Same.inst (o := .ins CR dr (rf (.ref a) (.int 0))) m1 m2
    refine ⟨Nat.zero_le _, fun tl n3 => ?_⟩
    have s3 := Same.new (o := .lst []) n3
    have s23 := s2.trans s3
    have s13 := s1.trans s23
    have hl3 : SqL K (rm (upd (upd (upd H1 dr (.own rd)) rd (.ins CR dr (rf (.ref a) (.int 0)))) tl (.lst [])) tl) a (l.map V.int) := by
      rw [rm_upd]
      refine Same.seq (fun b o e => ?_) ((s1.trans s2).seq hl)
      rw [rm_at (ne_of_none e n3)]
      exact e
    refine ⟨Loop K CS CR a sv rd tl l, ⟨l.length, ⟨none, dr, 0, cs0, Nt.begun, [], rfl, ⟨begun_ok, dx, d1, d2, d3, [], s23 _ _ e0, s23 _ _ e1, s23 _ _ e2, s23 _ _ e3, n23, keys_none⟩, s3 _ _ upd_same, hl3, upd_same, by rw [List.drop_zero]; exact hcs, hall, hans.symm, Nat.zero_le _, Nat.zero_le _, rfl⟩⟩, ?_⟩
    rintro m σ H' ⟨v, dr, pl, cs, st, out, rfl, hS, hrd, hl', htl, hdrop, hcall, hout, holen, hpl, rfl⟩
    have hl2 : SqL K H' a (l.map V.int) := rm_le.seq hl'
    have ntl : tl ≠ rd := ne_of htl hrd (by intro z; cases z)
    refine ⟨_, rfl, rd, dr, _, rfl, hrd, rfl, rd, dr, a, l, pl, rfl, hrd, hl2, _, rfl, ite2 (fun z => ?_) (fun z => ?_)⟩
    · have hlt : pl < l.length := by
        by_cases y : pl = l.length
        · rw [decide_eq_true y] at z
          exact absurd z (by decide)
        · omega
      match cs, hdrop, hcall, hout with
      | [], hdrop, _, _ =>
        have e := congrArg List.length hdrop
        rw [List.length_drop] at e
        have e : l.length - pl = 0 := e
        omega
      | c :: cs, hdrop, hcall, hout =>
        obtain ⟨hok, hak⟩ := hcall c (List.mem_cons.mpr (.inl rfl))
        obtain ⟨nc, hnc⟩ := call_of hak
        have hp1 := put1_pos hok
        have hdrop : l.drop pl = PyFlat.put1 c ++ PyFlat.put cs := hdrop
        have hdl := congrArg List.length hdrop
        rw [List.length_drop, List.length_append] at hdl
        refine ⟨fun σ' H2 => ∃ m', m' < l.length - pl ∧ Loop K CS CR a sv rd tl l m' σ' H2, fun _ _ h => h, ?_⟩
        refine ⟨_, rfl, _, rfl, tl, sv, rd, dr, a, l, PyFlat.put cs, pl, c, st, out.map V.int, rfl, hS, hrd, hl2, hlen, hdrop, hok, hak, htl, fun nc' hnc' H2 p k2 hrd2 S2 A2 pne => ?_⟩
        have ec : nc' = nc := Option.some.inj (hnc'.symm.trans hnc)
        subst ec
        have hal := ans_len st nc'
        have htl2 := k2 _ _ htl trivial ntl
        have lo1 : out.length ≤ 9000000 := by omega
        refine ⟨_, rfl, .inl ⟨rfl, _, SqL.of htl2⟩, _, rfl, p, _, rfl, .inl (SqL.of A2), tl, _, _, rfl, rfl, htl2, ?_, ?_⟩
        · rw [List.length_map]
          exact Nat.lt_of_le_of_lt lo1 (by decide)
        · refine ⟨_, rfl, .inl ⟨rfl, _, SqL.of upd_same⟩, _, rfl, tl, p, _, _, rfl, rfl, upd_same, by rw [upd_ne pne.symm]; exact A2, ?_, ?_⟩
          · rw [List.length_append, List.length_map, List.length_map, List.length_singleton]
            exact Nat.le_trans (show out.length + 1 + (TokenNeutral.told (NtDesk.step st nc').2).length ≤ 9000300 by omega) (by decide)
          · have estep : TokenNeutral.step st c = ((NtDesk.step st nc').1, TokenNeutral.told (NtDesk.step st nc').2) := by
              unfold TokenNeutral.step
              rw [hnc']
            rw [upd_upd]
            have fr : ∀ b o, H2 b = some o → b ≠ tl → (upd H2 tl (.lst (out.map V.int ++ [.int (((TokenNeutral.told (NtDesk.step st nc').2).map V.int).length : Int)] ++ (TokenNeutral.told (NtDesk.step st nc').2).map V.int))) b = some o := fun b o e hb => by
              rw [upd_ne hb]
              exact e
            refine ⟨l.length - (pl + (PyFlat.put1 c).length), by omega, ⟨some (.ref p), dr, pl + (PyFlat.put1 c).length, cs, (NtDesk.step st nc').1, out ++ ((TokenNeutral.told (NtDesk.step st nc').2).length : Int) :: TokenNeutral.told (NtDesk.step st nc').2, rfl, ?_, ?_, ?_, ?_, drop_mid hdrop, fun d hd => hcall d (List.mem_cons.mpr (.inr hd)), ?_, ?_, ?_, rfl⟩⟩
            · obtain ⟨ok, dx2, f1, f2, f3, j1, g0, g1, g2, g3, g23, gk⟩ := S2
              refine ⟨ok, dx2, f1, f2, f3, j1, fr _ _ g0 (ne_of g0 htl2 (by intro z; cases z)), fr _ _ g1 (ne_of g1 htl2 (by intro z; cases z)), fr _ _ g2 (ne_of g2 htl2 (by intro z; cases z)), fr _ _ g3 (ne_of g3 htl2 (by intro z; cases z)), g23, gk.nd, gk.low, gk.no, fun r key er => ?_⟩
              obtain ⟨b1, b2, b3, b4, b5⟩ := gk.yes r key er
              exact ⟨b1, b2, fr _ _ b3 b4, b4, b5⟩
            · exact fr _ _ hrd2 ntl.symm
            · rw [rm_upd]
              refine sq_keep (CS := CS) (rd := rd) hl' (fun b o e fx hb => ?_) (by rw [rm_at ntl.symm]; exact hrd)
              obtain ⟨y1, y2⟩ := rm_some e
              rw [rm_at y1]
              exact k2 _ _ y2 fx hb
            · rw [upd_same, List.length_map, List.map_append, List.map_cons]
              simp
            · rw [← hout]
              show _ = out ++ PyFlat.told ((TokenNeutral.step st c).2 :: PyFlat.played TokenNeutral.step (TokenNeutral.step st c).1 cs)
              rw [told_cons, estep]
              simp
            · rw [List.length_append, List.length_cons]
              omega
            · omega
    · have hend : pl = l.length := by
        by_cases y : pl = l.length
        · exact y
        · rw [decide_eq_false y] at z
          exact absurd rfl z
      match cs, hdrop, hcall, hout with
      | [], _, _, hout =>
        refine ⟨_, rfl, q H' tl ?_⟩
        rw [htl, ← hout]
        show _ = some (HO.lst ((out ++ []).map V.int))
        rw [List.append_nil]
      | c :: cs, hdrop, hcall, _ =>
        exfalso
        have hp1 := put1_pos (hcall c (List.mem_cons.mpr (.inl rfl))).1
        have hdrop : l.drop pl = PyFlat.put1 c ++ PyFlat.put cs := hdrop
        have hdl := congrArg List.length hdrop
        rw [List.length_drop, List.length_append] at hdl
        omega
end
end NT
set_option Elab.async false
set_option linter.all false
set_option maxRecDepth 100000
set_option maxHeartbeats 4000000
namespace NT
open PySem PySem.Spec PyProof.Rows L2
open PySem.W (Codec)
section
variable {K : PySem.W.Frag} {h : Heap} {mg : Str → Option Value}
theorem df_mk {x qual : Str} {st : Stmt} {ps : List Str} {f : Addr} {oc kV doc pm cd ct : Value} {od an : Option Addr} {sl : Array (Option Value)} (X : K.In h) (G : h.Ns mainGlobals mg) (a : PySem.W.nsIn K mainGlobals x = some (some (.ref f)))
    (l : K.lookup f = some ⟨oc, od, .func (PySem.W.fnOf x qual (defArgs st) (defBody st) (defScope st) .none kV doc pm an cd ct), sl⟩) (c : PySem.W.codeIn K cd qual = true) (k : PySem.W.keepIn K (.ref f) = true)
    (b : ∀ (kV doc pm : Value) (an : Option Addr) (cdv ct : Value) (us : List Value), us.length = ps.length → bindArgs (PySem.W.fnOf x qual (defArgs st) (defBody st) (defScope st) .none kV doc pm an cdv ct) ⟨us, []⟩ = pure (ps.zip us)) : Df K mg x qual st ps :=
  ⟨f, _, fun_mk (st := st) l c k, PySem.W.mg_of X G a, (fun_mk (st := st) l c k).binds b⟩
theorem dm_mk {x qual : Str} {st : Stmt} {ps : List Str} {C f : Addr} {oc kV doc pm cd ct : Value} {od an : Option Addr} {sl : Array (Option Value)} (a : PySem.W.findIn K (.ref C) x = some (some (.ref f))) (i : PySem.W.isFn K (.ref f) = true)
    (l : K.lookup f = some ⟨oc, od, .func (PySem.W.fnOf x qual (defArgs st) (defBody st) (defScope st) .none kV doc pm an cd ct), sl⟩) (c : PySem.W.codeIn K cd qual = true) (k : PySem.W.keepIn K (.ref f) = true)
    (b : ∀ (kV doc pm : Value) (an : Option Addr) (cdv ct : Value) (us : List Value), us.length = ps.length → bindArgs (PySem.W.fnOf x qual (defArgs st) (defBody st) (defScope st) .none kV doc pm an cdv ct) ⟨us, []⟩ = pure (ps.zip us)) : Dm K C x qual st ps :=
  ⟨f, _, fun_mk (st := st) l c k, ⟨a, i, k⟩, (fun_mk (st := st) l c k).binds b⟩
theorem dc_mk {qual : Str} {st : Stmt} {ps : List Str} {C f : Addr} {oc kV doc pm cd ct : Value} {od an : Option Addr} {sl : Array (Option Value)} (mk : PySem.W.makesIn K C = true) (kc : PySem.W.keepIn K (.ref C) = true) (a : PySem.W.findIn K (.ref C) "__init__" = some (some (.ref f))) (i : PySem.W.isFn K (.ref f) = true)
    (l : K.lookup f = some ⟨oc, od, .func (PySem.W.fnOf "__init__" qual (defArgs st) (defBody st) (defScope st) .none kV doc pm an cd ct), sl⟩) (c : PySem.W.codeIn K cd qual = true) (k : PySem.W.keepIn K (.ref f) = true)
    (b : ∀ (kV doc pm : Value) (an : Option Addr) (cdv ct : Value) (us : List Value), us.length = ps.length → bindArgs (PySem.W.fnOf "__init__" qual (defArgs st) (defBody st) (defScope st) .none kV doc pm an cdv ct) ⟨us, []⟩ = pure (ps.zip us)) : Dc K C qual st ps :=
  ⟨f, _, fun_mk (st := st) l c k, ⟨mk, a, i, kc⟩, (fun_mk (st := st) l c k).binds b⟩
theorem cst_mk {x : Str} {i : Int} {t : Tok} (X : K.In h) (G : h.Ns mainGlobals mg) (a : PySem.W.nsIn K mainGlobals x = some (some (.int i t))) : ∃ t, mg x = some (.int i t) := ⟨t, PySem.W.mg_of X G a⟩
structure X_Caveat (K : PySem.W.Frag) (mg : Str → Option Value) (C : Addr) : Prop where
  cl : Cls K C
  mgC : mg "Caveat" = some (.ref C)
  n_kind : NoAttr K C "kind"
  n_argument : NoAttr K C "argument"
  d_init : Dc K C "Caveat.__init__" s_Caveat_init ["self", "kind", "argument"]
theorem x_Caveat_mk {C f0 : Addr} {oc0 kV0 dc0 pm0 cd0 ct0 : Value} {od0 an0 : Option Addr} {sl0 : Array (Option Value)} (X : K.In h) (G : h.Ns mainGlobals mg)
    (aC : PySem.W.nsIn K mainGlobals "Caveat" = some (some (.ref C)))
    (pg : PySem.W.plainGet K C Str.empty = true)
    (hd : PySem.W.hasDictIn K C = true)
    (po : PySem.W.plainOver K C = true)
    (sa : PySem.W.findIn K (.ref C) "__setattr__" = some (some (.builtin "object.__setattr__")))
    (mk : PySem.W.makesIn K C = true)
    (kc : PySem.W.keepIn K (.ref C) = true)
    (n_kind : PySem.W.findIn K (.ref C) "kind" = some none)
    (n_argument : PySem.W.findIn K (.ref C) "argument" = some none)
    (a0 : PySem.W.findIn K (.ref C) "__init__" = some (some (.ref f0)))
    (i0 : PySem.W.isFn K (.ref f0) = true)
    (l0 : K.lookup f0 = some ⟨oc0, od0, .func (PySem.W.fnOf "__init__" "Caveat.__init__" (defArgs s_Caveat_init) (defBody s_Caveat_init) (defScope s_Caveat_init) .none kV0 dc0 pm0 an0 cd0 ct0), sl0⟩)
    (c0 : PySem.W.codeIn K cd0 "Caveat.__init__" = true)
    (k0 : PySem.W.keepIn K (.ref f0) = true) : ∃ C, X_Caveat K mg C :=
  ⟨C, ⟨pg, hd, po, sa⟩, PySem.W.mg_of X G aC, n_kind, n_argument, dc_mk mk kc a0 i0 l0 c0 k0 (fun _ _ _ _ _ _ us hl => match us, hl with | [_, _, _], _ => rfl)⟩
structure X_Token (K : PySem.W.Frag) (mg : Str → Option Value) (C : Addr) : Prop where
  cl : Cls K C
  mgC : mg "Token" = some (.ref C)
  n_root : NoAttr K C "root"
  n_serial : NoAttr K C "serial"
  n_caveats : NoAttr K C "caveats"
  n_seal : NoAttr K C "seal"
  d_init : Dc K C "Token.__init__" s_Token_init ["self", "root", "serial", "caveats", "seal"]
theorem x_Token_mk {C f0 : Addr} {oc0 kV0 dc0 pm0 cd0 ct0 : Value} {od0 an0 : Option Addr} {sl0 : Array (Option Value)} (X : K.In h) (G : h.Ns mainGlobals mg)
    (aC : PySem.W.nsIn K mainGlobals "Token" = some (some (.ref C)))
    (pg : PySem.W.plainGet K C Str.empty = true)
    (hd : PySem.W.hasDictIn K C = true)
    (po : PySem.W.plainOver K C = true)
    (sa : PySem.W.findIn K (.ref C) "__setattr__" = some (some (.builtin "object.__setattr__")))
    (mk : PySem.W.makesIn K C = true)
    (kc : PySem.W.keepIn K (.ref C) = true)
    (n_root : PySem.W.findIn K (.ref C) "root" = some none)
    (n_serial : PySem.W.findIn K (.ref C) "serial" = some none)
    (n_caveats : PySem.W.findIn K (.ref C) "caveats" = some none)
    (n_seal : PySem.W.findIn K (.ref C) "seal" = some none)
    (a0 : PySem.W.findIn K (.ref C) "__init__" = some (some (.ref f0)))
    (i0 : PySem.W.isFn K (.ref f0) = true)
    (l0 : K.lookup f0 = some ⟨oc0, od0, .func (PySem.W.fnOf "__init__" "Token.__init__" (defArgs s_Token_init) (defBody s_Token_init) (defScope s_Token_init) .none kV0 dc0 pm0 an0 cd0 ct0), sl0⟩)
    (c0 : PySem.W.codeIn K cd0 "Token.__init__" = true)
    (k0 : PySem.W.keepIn K (.ref f0) = true) : ∃ C, X_Token K mg C :=
  ⟨C, ⟨pg, hd, po, sa⟩, PySem.W.mg_of X G aC, n_root, n_serial, n_caveats, n_seal, dc_mk mk kc a0 i0 l0 c0 k0 (fun _ _ _ _ _ _ us hl => match us, hl with | [_, _, _, _, _], _ => rfl)⟩
structure X_Request (K : PySem.W.Frag) (mg : Str → Option Value) (C : Addr) : Prop where
  cl : Cls K C
  mgC : mg "Request" = some (.ref C)
  n_now : NoAttr K C "now"
  n_op : NoAttr K C "op"
  n_path : NoAttr K C "path"
  n_use_count : NoAttr K C "use_count"
  d_init : Dc K C "Request.__init__" s_Request_init ["self", "now", "op", "path", "use_count"]
theorem x_Request_mk {C f0 : Addr} {oc0 kV0 dc0 pm0 cd0 ct0 : Value} {od0 an0 : Option Addr} {sl0 : Array (Option Value)} (X : K.In h) (G : h.Ns mainGlobals mg)
    (aC : PySem.W.nsIn K mainGlobals "Request" = some (some (.ref C)))
    (pg : PySem.W.plainGet K C Str.empty = true)
    (hd : PySem.W.hasDictIn K C = true)
    (po : PySem.W.plainOver K C = true)
    (sa : PySem.W.findIn K (.ref C) "__setattr__" = some (some (.builtin "object.__setattr__")))
    (mk : PySem.W.makesIn K C = true)
    (kc : PySem.W.keepIn K (.ref C) = true)
    (n_now : PySem.W.findIn K (.ref C) "now" = some none)
    (n_op : PySem.W.findIn K (.ref C) "op" = some none)
    (n_path : PySem.W.findIn K (.ref C) "path" = some none)
    (n_use_count : PySem.W.findIn K (.ref C) "use_count" = some none)
    (a0 : PySem.W.findIn K (.ref C) "__init__" = some (some (.ref f0)))
    (i0 : PySem.W.isFn K (.ref f0) = true)
    (l0 : K.lookup f0 = some ⟨oc0, od0, .func (PySem.W.fnOf "__init__" "Request.__init__" (defArgs s_Request_init) (defBody s_Request_init) (defScope s_Request_init) .none kV0 dc0 pm0 an0 cd0 ct0), sl0⟩)
    (c0 : PySem.W.codeIn K cd0 "Request.__init__" = true)
    (k0 : PySem.W.keepIn K (.ref f0) = true) : ∃ C, X_Request K mg C :=
  ⟨C, ⟨pg, hd, po, sa⟩, PySem.W.mg_of X G aC, n_now, n_op, n_path, n_use_count, dc_mk mk kc a0 i0 l0 c0 k0 (fun _ _ _ _ _ _ us hl => match us, hl with | [_, _, _, _, _], _ => rfl)⟩
structure X_Service (K : PySem.W.Frag) (mg : Str → Option Value) (C : Addr) : Prop where
  cl : Cls K C
  mgC : mg "Service" = some (.ref C)
  n_root_keys : NoAttr K C "root_keys"
  n_revocations : NoAttr K C "revocations"
  n_counts : NoAttr K C "counts"
  n_at_end : NoAttr K C "at_end"
  d_init : Dc K C "Service.__init__" s_Service_init ["self"]
  d_begin_anew : Dm K C "begin_anew" "Service.begin_anew" s_Service_begin_anew ["self"]
  d_set_key : Dm K C "set_key" "Service.set_key" s_Service_set_key ["self", "root", "key"]
  d_take_key : Dm K C "take_key" "Service.take_key" s_Service_take_key ["self", "root"]
  d_forget_serials : Dm K C "forget_serials" "Service.forget_serials" s_Service_forget_serials ["self", "root"]
  d_issue : Dm K C "issue" "Service.issue" s_Service_issue ["self", "root", "high", "low"]
  d_allow : Dm K C "allow" "Service.allow" s_Service_allow ["self", "now", "op", "row", "path"]
  d_seal_is_right : Dm K C "seal_is_right" "Service.seal_is_right" s_Service_seal_is_right ["self", "token"]
  d_count_use : Dm K C "count_use" "Service.count_use" s_Service_count_use ["self", "pair"]
  d_revoke : Dm K C "revoke" "Service.revoke" s_Service_revoke ["self", "root", "high", "low"]
  d_uses : Dm K C "uses" "Service.uses" s_Service_uses ["self", "root", "high", "low"]
  d_right : Dm K C "right" "Service.right" s_Service_right ["self", "row"]
theorem x_Service_mk {C f0 f1 f2 f3 f4 f5 f6 f7 f8 f9 f10 f11 : Addr} {oc0 kV0 dc0 pm0 cd0 ct0 oc1 kV1 dc1 pm1 cd1 ct1 oc2 kV2 dc2 pm2 cd2 ct2 oc3 kV3 dc3 pm3 cd3 ct3 oc4 kV4 dc4 pm4 cd4 ct4 oc5 kV5 dc5 pm5 cd5 ct5 oc6 kV6 dc6 pm6 cd6 ct6 oc7 kV7 dc7 pm7 cd7 ct7 oc8 kV8 dc8 pm8 cd8 ct8 oc9 kV9 dc9 pm9 cd9 ct9 oc10 kV10 dc10 pm10 cd10 ct10 oc11 kV11 dc11 pm11 cd11 ct11 : Value} {od0 an0 od1 an1 od2 an2 od3 an3 od4 an4 od5 an5 od6 an6 od7 an7 od8 an8 od9 an9 od10 an10 od11 an11 : Option Addr} {sl0 sl1 sl2 sl3 sl4 sl5 sl6 sl7 sl8 sl9 sl10 sl11 : Array (Option Value)} (X : K.In h) (G : h.Ns mainGlobals mg)
    (aC : PySem.W.nsIn K mainGlobals "Service" = some (some (.ref C)))
    (pg : PySem.W.plainGet K C Str.empty = true)
    (hd : PySem.W.hasDictIn K C = true)
    (po : PySem.W.plainOver K C = true)
    (sa : PySem.W.findIn K (.ref C) "__setattr__" = some (some (.builtin "object.__setattr__")))
    (mk : PySem.W.makesIn K C = true)
    (kc : PySem.W.keepIn K (.ref C) = true)
    (n_root_keys : PySem.W.findIn K (.ref C) "root_keys" = some none)
    (n_revocations : PySem.W.findIn K (.ref C) "revocations" = some none)
    (n_counts : PySem.W.findIn K (.ref C) "counts" = some none)
    (n_at_end : PySem.W.findIn K (.ref C) "at_end" = some none)
    (a0 : PySem.W.findIn K (.ref C) "__init__" = some (some (.ref f0)))
    (i0 : PySem.W.isFn K (.ref f0) = true)
    (l0 : K.lookup f0 = some ⟨oc0, od0, .func (PySem.W.fnOf "__init__" "Service.__init__" (defArgs s_Service_init) (defBody s_Service_init) (defScope s_Service_init) .none kV0 dc0 pm0 an0 cd0 ct0), sl0⟩)
    (c0 : PySem.W.codeIn K cd0 "Service.__init__" = true)
    (k0 : PySem.W.keepIn K (.ref f0) = true)
    (a1 : PySem.W.findIn K (.ref C) "begin_anew" = some (some (.ref f1)))
    (i1 : PySem.W.isFn K (.ref f1) = true)
    (l1 : K.lookup f1 = some ⟨oc1, od1, .func (PySem.W.fnOf "begin_anew" "Service.begin_anew" (defArgs s_Service_begin_anew) (defBody s_Service_begin_anew) (defScope s_Service_begin_anew) .none kV1 dc1 pm1 an1 cd1 ct1), sl1⟩)
    (c1 : PySem.W.codeIn K cd1 "Service.begin_anew" = true)
    (k1 : PySem.W.keepIn K (.ref f1) = true)
    (a2 : PySem.W.findIn K (.ref C) "set_key" = some (some (.ref f2)))
    (i2 : PySem.W.isFn K (.ref f2) = true)
    (l2 : K.lookup f2 = some ⟨oc2, od2, .func (PySem.W.fnOf "set_key" "Service.set_key" (defArgs s_Service_set_key) (defBody s_Service_set_key) (defScope s_Service_set_key) .none kV2 dc2 pm2 an2 cd2 ct2), sl2⟩)
    (c2 : PySem.W.codeIn K cd2 "Service.set_key" = true)
    (k2 : PySem.W.keepIn K (.ref f2) = true)
    (a3 : PySem.W.findIn K (.ref C) "take_key" = some (some (.ref f3)))
    (i3 : PySem.W.isFn K (.ref f3) = true)
    (l3 : K.lookup f3 = some ⟨oc3, od3, .func (PySem.W.fnOf "take_key" "Service.take_key" (defArgs s_Service_take_key) (defBody s_Service_take_key) (defScope s_Service_take_key) .none kV3 dc3 pm3 an3 cd3 ct3), sl3⟩)
    (c3 : PySem.W.codeIn K cd3 "Service.take_key" = true)
    (k3 : PySem.W.keepIn K (.ref f3) = true)
    (a4 : PySem.W.findIn K (.ref C) "forget_serials" = some (some (.ref f4)))
    (i4 : PySem.W.isFn K (.ref f4) = true)
    (l4 : K.lookup f4 = some ⟨oc4, od4, .func (PySem.W.fnOf "forget_serials" "Service.forget_serials" (defArgs s_Service_forget_serials) (defBody s_Service_forget_serials) (defScope s_Service_forget_serials) .none kV4 dc4 pm4 an4 cd4 ct4), sl4⟩)
    (c4 : PySem.W.codeIn K cd4 "Service.forget_serials" = true)
    (k4 : PySem.W.keepIn K (.ref f4) = true)
    (a5 : PySem.W.findIn K (.ref C) "issue" = some (some (.ref f5)))
    (i5 : PySem.W.isFn K (.ref f5) = true)
    (l5 : K.lookup f5 = some ⟨oc5, od5, .func (PySem.W.fnOf "issue" "Service.issue" (defArgs s_Service_issue) (defBody s_Service_issue) (defScope s_Service_issue) .none kV5 dc5 pm5 an5 cd5 ct5), sl5⟩)
    (c5 : PySem.W.codeIn K cd5 "Service.issue" = true)
    (k5 : PySem.W.keepIn K (.ref f5) = true)
    (a6 : PySem.W.findIn K (.ref C) "allow" = some (some (.ref f6)))
    (i6 : PySem.W.isFn K (.ref f6) = true)
    (l6 : K.lookup f6 = some ⟨oc6, od6, .func (PySem.W.fnOf "allow" "Service.allow" (defArgs s_Service_allow) (defBody s_Service_allow) (defScope s_Service_allow) .none kV6 dc6 pm6 an6 cd6 ct6), sl6⟩)
    (c6 : PySem.W.codeIn K cd6 "Service.allow" = true)
    (k6 : PySem.W.keepIn K (.ref f6) = true)
    (a7 : PySem.W.findIn K (.ref C) "seal_is_right" = some (some (.ref f7)))
    (i7 : PySem.W.isFn K (.ref f7) = true)
    (l7 : K.lookup f7 = some ⟨oc7, od7, .func (PySem.W.fnOf "seal_is_right" "Service.seal_is_right" (defArgs s_Service_seal_is_right) (defBody s_Service_seal_is_right) (defScope s_Service_seal_is_right) .none kV7 dc7 pm7 an7 cd7 ct7), sl7⟩)
    (c7 : PySem.W.codeIn K cd7 "Service.seal_is_right" = true)
    (k7 : PySem.W.keepIn K (.ref f7) = true)
    (a8 : PySem.W.findIn K (.ref C) "count_use" = some (some (.ref f8)))
    (i8 : PySem.W.isFn K (.ref f8) = true)
    (l8 : K.lookup f8 = some ⟨oc8, od8, .func (PySem.W.fnOf "count_use" "Service.count_use" (defArgs s_Service_count_use) (defBody s_Service_count_use) (defScope s_Service_count_use) .none kV8 dc8 pm8 an8 cd8 ct8), sl8⟩)
    (c8 : PySem.W.codeIn K cd8 "Service.count_use" = true)
    (k8 : PySem.W.keepIn K (.ref f8) = true)
    (a9 : PySem.W.findIn K (.ref C) "revoke" = some (some (.ref f9)))
    (i9 : PySem.W.isFn K (.ref f9) = true)
    (l9 : K.lookup f9 = some ⟨oc9, od9, .func (PySem.W.fnOf "revoke" "Service.revoke" (defArgs s_Service_revoke) (defBody s_Service_revoke) (defScope s_Service_revoke) .none kV9 dc9 pm9 an9 cd9 ct9), sl9⟩)
    (c9 : PySem.W.codeIn K cd9 "Service.revoke" = true)
    (k9 : PySem.W.keepIn K (.ref f9) = true)
    (a10 : PySem.W.findIn K (.ref C) "uses" = some (some (.ref f10)))
    (i10 : PySem.W.isFn K (.ref f10) = true)
    (l10 : K.lookup f10 = some ⟨oc10, od10, .func (PySem.W.fnOf "uses" "Service.uses" (defArgs s_Service_uses) (defBody s_Service_uses) (defScope s_Service_uses) .none kV10 dc10 pm10 an10 cd10 ct10), sl10⟩)
    (c10 : PySem.W.codeIn K cd10 "Service.uses" = true)
    (k10 : PySem.W.keepIn K (.ref f10) = true)
    (a11 : PySem.W.findIn K (.ref C) "right" = some (some (.ref f11)))
    (i11 : PySem.W.isFn K (.ref f11) = true)
    (l11 : K.lookup f11 = some ⟨oc11, od11, .func (PySem.W.fnOf "right" "Service.right" (defArgs s_Service_right) (defBody s_Service_right) (defScope s_Service_right) .none kV11 dc11 pm11 an11 cd11 ct11), sl11⟩)
    (c11 : PySem.W.codeIn K cd11 "Service.right" = true)
    (k11 : PySem.W.keepIn K (.ref f11) = true) : ∃ C, X_Service K mg C :=
  ⟨C, ⟨pg, hd, po, sa⟩, PySem.W.mg_of X G aC, n_root_keys, n_revocations, n_counts, n_at_end, dc_mk mk kc a0 i0 l0 c0 k0 (fun _ _ _ _ _ _ us hl => match us, hl with | [_], _ => rfl), dm_mk a1 i1 l1 c1 k1 (fun _ _ _ _ _ _ us hl => match us, hl with | [_], _ => rfl), dm_mk a2 i2 l2 c2 k2 (fun _ _ _ _ _ _ us hl => match us, hl with | [_, _, _], _ => rfl), dm_mk a3 i3 l3 c3 k3 (fun _ _ _ _ _ _ us hl => match us, hl with | [_, _], _ => rfl), dm_mk a4 i4 l4 c4 k4 (fun _ _ _ _ _ _ us hl => match us, hl with | [_, _], _ => rfl), dm_mk a5 i5 l5 c5 k5 (fun _ _ _ _ _ _ us hl => match us, hl with | [_, _, _, _], _ => rfl), dm_mk a6 i6 l6 c6 k6 (fun _ _ _ _ _ _ us hl => match us, hl with | [_, _, _, _, _], _ => rfl), dm_mk a7 i7 l7 c7 k7 (fun _ _ _ _ _ _ us hl => match us, hl with | [_, _], _ => rfl), dm_mk a8 i8 l8 c8 k8 (fun _ _ _ _ _ _ us hl => match us, hl with | [_, _], _ => rfl), dm_mk a9 i9 l9 c9 k9 (fun _ _ _ _ _ _ us hl => match us, hl with | [_, _, _, _], _ => rfl), dm_mk a10 i10 l10 c10 k10 (fun _ _ _ _ _ _ us hl => match us, hl with | [_, _, _, _], _ => rfl), dm_mk a11 i11 l11 c11 k11 (fun _ _ _ _ _ _ us hl => match us, hl with | [_, _], _ => rfl)⟩
structure X_Reader (K : PySem.W.Frag) (mg : Str → Option Value) (C : Addr) : Prop where
  cl : Cls K C
  mgC : mg "Reader" = some (.ref C)
  n_calls : NoAttr K C "calls"
  n_place : NoAttr K C "place"
  d_init : Dc K C "Reader.__init__" s_Reader_init ["self", "calls"]
  d_at_end : Dm K C "at_end" "Reader.at_end" s_Reader_at_end ["self"]
  d_take_number : Dm K C "take_number" "Reader.take_number" s_Reader_take_number ["self"]
  d_take_row : Dm K C "take_row" "Reader.take_row" s_Reader_take_row ["self"]
theorem x_Reader_mk {C f0 f1 f2 f3 : Addr} {oc0 kV0 dc0 pm0 cd0 ct0 oc1 kV1 dc1 pm1 cd1 ct1 oc2 kV2 dc2 pm2 cd2 ct2 oc3 kV3 dc3 pm3 cd3 ct3 : Value} {od0 an0 od1 an1 od2 an2 od3 an3 : Option Addr} {sl0 sl1 sl2 sl3 : Array (Option Value)} (X : K.In h) (G : h.Ns mainGlobals mg)
    (aC : PySem.W.nsIn K mainGlobals "Reader" = some (some (.ref C)))
    (pg : PySem.W.plainGet K C Str.empty = true)
    (hd : PySem.W.hasDictIn K C = true)
    (po : PySem.W.plainOver K C = true)
    (sa : PySem.W.findIn K (.ref C) "__setattr__" = some (some (.builtin "object.__setattr__")))
    (mk : PySem.W.makesIn K C = true)
    (kc : PySem.W.keepIn K (.ref C) = true)
    (n_calls : PySem.W.findIn K (.ref C) "calls" = some none)
    (n_place : PySem.W.findIn K (.ref C) "place" = some none)
    (a0 : PySem.W.findIn K (.ref C) "__init__" = some (some (.ref f0)))
    (i0 : PySem.W.isFn K (.ref f0) = true)
    (l0 : K.lookup f0 = some ⟨oc0, od0, .func (PySem.W.fnOf "__init__" "Reader.__init__" (defArgs s_Reader_init) (defBody s_Reader_init) (defScope s_Reader_init) .none kV0 dc0 pm0 an0 cd0 ct0), sl0⟩)
    (c0 : PySem.W.codeIn K cd0 "Reader.__init__" = true)
    (k0 : PySem.W.keepIn K (.ref f0) = true)
    (a1 : PySem.W.findIn K (.ref C) "at_end" = some (some (.ref f1)))
    (i1 : PySem.W.isFn K (.ref f1) = true)
    (l1 : K.lookup f1 = some ⟨oc1, od1, .func (PySem.W.fnOf "at_end" "Reader.at_end" (defArgs s_Reader_at_end) (defBody s_Reader_at_end) (defScope s_Reader_at_end) .none kV1 dc1 pm1 an1 cd1 ct1), sl1⟩)
    (c1 : PySem.W.codeIn K cd1 "Reader.at_end" = true)
    (k1 : PySem.W.keepIn K (.ref f1) = true)
    (a2 : PySem.W.findIn K (.ref C) "take_number" = some (some (.ref f2)))
    (i2 : PySem.W.isFn K (.ref f2) = true)
    (l2 : K.lookup f2 = some ⟨oc2, od2, .func (PySem.W.fnOf "take_number" "Reader.take_number" (defArgs s_Reader_take_number) (defBody s_Reader_take_number) (defScope s_Reader_take_number) .none kV2 dc2 pm2 an2 cd2 ct2), sl2⟩)
    (c2 : PySem.W.codeIn K cd2 "Reader.take_number" = true)
    (k2 : PySem.W.keepIn K (.ref f2) = true)
    (a3 : PySem.W.findIn K (.ref C) "take_row" = some (some (.ref f3)))
    (i3 : PySem.W.isFn K (.ref f3) = true)
    (l3 : K.lookup f3 = some ⟨oc3, od3, .func (PySem.W.fnOf "take_row" "Reader.take_row" (defArgs s_Reader_take_row) (defBody s_Reader_take_row) (defScope s_Reader_take_row) .none kV3 dc3 pm3 an3 cd3 ct3), sl3⟩)
    (c3 : PySem.W.codeIn K cd3 "Reader.take_row" = true)
    (k3 : PySem.W.keepIn K (.ref f3) = true) : ∃ C, X_Reader K mg C :=
  ⟨C, ⟨pg, hd, po, sa⟩, PySem.W.mg_of X G aC, n_calls, n_place, dc_mk mk kc a0 i0 l0 c0 k0 (fun _ _ _ _ _ _ us hl => match us, hl with | [_, _], _ => rfl), dm_mk a1 i1 l1 c1 k1 (fun _ _ _ _ _ _ us hl => match us, hl with | [_], _ => rfl), dm_mk a2 i2 l2 c2 k2 (fun _ _ _ _ _ _ us hl => match us, hl with | [_], _ => rfl), dm_mk a3 i3 l3 c3 k3 (fun _ _ _ _ _ _ us hl => match us, hl with | [_], _ => rfl)⟩
theorem tup_HOW_MANY_NUMBERS_mk {a : Addr} {od : Option Addr} {n : Nat} {sl : Array (Option Value)} {t0 t1 t2 t3 t4 t5 t6 t7 t8 t9 t10 t11 : Tok} (X : K.In h) (G : h.Ns mainGlobals mg) (e : PySem.W.nsIn K mainGlobals "HOW_MANY_NUMBERS" = some (some (.ref a))) (l : K.lookup a = some ⟨.type "tuple", od, .seq #[.int 0 t0, .int 1 t1, .int 1 t2, .int 3 t3, .int 0 t4, .int 1 t5, .int 2 t6, .int 3 t7, .int 3 t8, .int 0 t9, .int 0 t10, .int 0 t11] n, sl⟩) : ∃ a, mg "HOW_MANY_NUMBERS" = some (.ref a) ∧ TupK K a [0, 1, 1, 3, 0, 1, 2, 3, 3, 0, 0, 0] :=
  ⟨a, PySem.W.mg_of X G e, _, _, n, l, rfl, rfl, (by show 12 ≤ sizeLine; decide), .cons ⟨_, rfl⟩ (.cons ⟨_, rfl⟩ (.cons ⟨_, rfl⟩ (.cons ⟨_, rfl⟩ (.cons ⟨_, rfl⟩ (.cons ⟨_, rfl⟩ (.cons ⟨_, rfl⟩ (.cons ⟨_, rfl⟩ (.cons ⟨_, rfl⟩ (.cons ⟨_, rfl⟩ (.cons ⟨_, rfl⟩ (.cons ⟨_, rfl⟩ (.nil))))))))))))⟩
theorem tup_HOW_MANY_ROWS_mk {a : Addr} {od : Option Addr} {n : Nat} {sl : Array (Option Value)} {t0 t1 t2 t3 t4 t5 t6 t7 t8 t9 t10 t11 : Tok} (X : K.In h) (G : h.Ns mainGlobals mg) (e : PySem.W.nsIn K mainGlobals "HOW_MANY_ROWS" = some (some (.ref a))) (l : K.lookup a = some ⟨.type "tuple", od, .seq #[.int 0 t0, .int 1 t1, .int 0 t2, .int 0 t3, .int 1 t4, .int 2 t5, .int 2 t6, .int 0 t7, .int 0 t8, .int 1 t9, .int 1 t10, .int 1 t11] n, sl⟩) : ∃ a, mg "HOW_MANY_ROWS" = some (.ref a) ∧ TupK K a [0, 1, 0, 0, 1, 2, 2, 0, 0, 1, 1, 1] :=
  ⟨a, PySem.W.mg_of X G e, _, _, n, l, rfl, rfl, (by show 12 ≤ sizeLine; decide), .cons ⟨_, rfl⟩ (.cons ⟨_, rfl⟩ (.cons ⟨_, rfl⟩ (.cons ⟨_, rfl⟩ (.cons ⟨_, rfl⟩ (.cons ⟨_, rfl⟩ (.cons ⟨_, rfl⟩ (.cons ⟨_, rfl⟩ (.cons ⟨_, rfl⟩ (.cons ⟨_, rfl⟩ (.cons ⟨_, rfl⟩ (.cons ⟨_, rfl⟩ (.nil))))))))))))⟩
theorem fin_mk {P : Program} {w : World} {CC CT CQ CS CR fa f : Addr} {oc kV doc pm cd ct : Value} {od an : Option Addr} {sl : Array (Option Value)} (X : K.In h) (G : h.Ns mainGlobals mg) (hfa : mg "answers" = some (.ref fa)) (T : Txt K mg CC CT CQ CS CR)
    (a : PySem.W.nsIn K mainGlobals "answers" = some (some (.ref f))) (l : K.lookup f = some ⟨oc, od, .func (PySem.W.fnOf "answers" "answers" (defArgs s_answers) (defBody s_answers) (defScope s_answers) .none kV doc pm an cd ct), sl⟩) (c : PySem.W.codeIn K cd "answers" = true) (k : PySem.W.keepIn K (.ref f) = true) :
    ∃ fd : FuncData, (∀ (s : Shared) (us : List Value), us.length = (["calls"] : List Str).length → BindsTo s fd ⟨us, []⟩ ((["calls"] : List Str).zip us)) ∧ ∀ base : Heap, K.In base → base.Ns mainGlobals mg → FnOk P w K mg base CX0 8 fa fd ["calls"] (spAns K) := by
  have e := hfa.symm.trans (PySem.W.mg_of X G a)
  cases e
  exact ⟨PySem.W.fnOf "answers" "answers" (defArgs s_answers) (defBody s_answers) (defScope s_answers) .none kV doc pm an cd ct, fun s us hu => match us, hu with | [_], _ => .of_eq rfl, fun base _ _ => ok_answers T (fun_mk (st := s_answers) l c k)⟩
end
end NT
open PySem PySem.W PyProof.Rows
/-! Names that the head would give to second forms of the heaps and trees it writes: held by something small, so that it goes on without these forms (each wants a proof term of megabytes, and nothing asks for it). -/
def PySem.W.Fast.tw14226546986244342258 : Unit := ()
def PySem.W.Fast.tw8930778680581845272 : Unit := ()
def PySem.W.Fast.tw420368631086696662 : Unit := ()
def PySem.W.Fast.tw1978935832846480922 : Unit := ()
def PySem.W.Fast.tw4037125404381926641 : Unit := ()
def PySem.W.Fast.tw4217881794719101434 : Unit := ()
def PySem.W.Fast.tw3593115859759021528 : Unit := ()
def PySem.W.Fast.tw248497506230241341 : Unit := ()
def PySem.W.Fast.tw7993464894101758342 : Unit := ()
def PySem.W.Fast.tw17542940066120382075 : Unit := ()
def PySem.W.Fast.tw13690318671040688295 : Unit := ()
def PySem.W.Fast.tw11010760231221456410 : Unit := ()
def PySem.W.Fast.tw1985190537037478568 : Unit := ()
def PySem.W.Fast.tw5587023809676791499 : Unit := ()
def PySem.W.Fast.tw4096071856543347849 : Unit := ()
set_option maxRecDepth 100000 in
set_option maxHeartbeats 0 in
theorem PySem.Challenge.cw_narrowtokens_s01_answers_holds : PySem.Challenge.rw_narrowtokens_s01_answers.Holds := by
  w_on; k_headS; (case hw => exact ⟨[.list [.int 0]], by decide +kernel, by decide +kernel⟩)
  k_fillS
  refine L2.walk_specK (r := PySem.Challenge.rw_narrowtokens_s01_answers) (k := 8) (CX := L2.CX0) (ps := ["calls"]) (sp := NT.spAns) (by decide +kernel) rfl rfl ⟨rfl, by decide, by decide⟩ (fun w h Y => PySem.W.kIn_of Y) ?F ?S (fun _ _ _ _ z => z)
  case F =>
    intro w mg fa h Y KX G hmg
    obtain ⟨CC, XCC⟩ : ∃ C, NT.X_Caveat (L2.KOf KX) mg C := by
      dsimp only [L2.KOf]
      refine' NT.x_Caveat_mk KX G ?aC ?pg ?hd ?po ?sa ?mk ?kc ?n_kind ?n_argument ?a0 ?i0 ?l0 ?c0 ?k0
      (case aC => k_is); (case pg => k_is); (case hd => k_is); (case po => k_is); (case sa => k_is); (case mk => k_is); (case kc => k_is); (case n_kind => k_is); (case n_argument => k_is); (case a0 => k_is); (case i0 => k_is); (case l0 => k_is); (case c0 => k_is); (case k0 => k_is)
    obtain ⟨CT, XCT⟩ : ∃ C, NT.X_Token (L2.KOf KX) mg C := by
      dsimp only [L2.KOf]
      refine' NT.x_Token_mk KX G ?aC ?pg ?hd ?po ?sa ?mk ?kc ?n_root ?n_serial ?n_caveats ?n_seal ?a0 ?i0 ?l0 ?c0 ?k0
      (case aC => k_is); (case pg => k_is); (case hd => k_is); (case po => k_is); (case sa => k_is); (case mk => k_is); (case kc => k_is); (case n_root => k_is); (case n_serial => k_is); (case n_caveats => k_is); (case n_seal => k_is); (case a0 => k_is); (case i0 => k_is); (case l0 => k_is); (case c0 => k_is); (case k0 => k_is)
    obtain ⟨CQ, XCQ⟩ : ∃ C, NT.X_Request (L2.KOf KX) mg C := by
      dsimp only [L2.KOf]
      refine' NT.x_Request_mk KX G ?aC ?pg ?hd ?po ?sa ?mk ?kc ?n_now ?n_op ?n_path ?n_use_count ?a0 ?i0 ?l0 ?c0 ?k0
      (case aC => k_is); (case pg => k_is); (case hd => k_is); (case po => k_is); (case sa => k_is); (case mk => k_is); (case kc => k_is); (case n_now => k_is); (case n_op => k_is); (case n_path => k_is); (case n_use_count => k_is); (case a0 => k_is); (case i0 => k_is); (case l0 => k_is); (case c0 => k_is); (case k0 => k_is)
    obtain ⟨CS, XCS⟩ : ∃ C, NT.X_Service (L2.KOf KX) mg C := by
      dsimp only [L2.KOf]
      refine' NT.x_Service_mk KX G ?aC ?pg ?hd ?po ?sa ?mk ?kc ?n_root_keys ?n_revocations ?n_counts ?n_at_end ?a0 ?i0 ?l0 ?c0 ?k0 ?a1 ?i1 ?l1 ?c1 ?k1 ?a2 ?i2 ?l2 ?c2 ?k2 ?a3 ?i3 ?l3 ?c3 ?k3 ?a4 ?i4 ?l4 ?c4 ?k4 ?a5 ?i5 ?l5 ?c5 ?k5 ?a6 ?i6 ?l6 ?c6 ?k6 ?a7 ?i7 ?l7 ?c7 ?k7 ?a8 ?i8 ?l8 ?c8 ?k8 ?a9 ?i9 ?l9 ?c9 ?k9 ?a10 ?i10 ?l10 ?c10 ?k10 ?a11 ?i11 ?l11 ?c11 ?k11
      (case aC => k_is); (case pg => k_is); (case hd => k_is); (case po => k_is); (case sa => k_is); (case mk => k_is); (case kc => k_is); (case n_root_keys => k_is); (case n_revocations => k_is); (case n_counts => k_is); (case n_at_end => k_is); (case a0 => k_is); (case i0 => k_is); (case l0 => k_is); (case c0 => k_is); (case k0 => k_is); (case a1 => k_is); (case i1 => k_is); (case l1 => k_is); (case c1 => k_is); (case k1 => k_is); (case a2 => k_is); (case i2 => k_is); (case l2 => k_is); (case c2 => k_is); (case k2 => k_is); (case a3 => k_is); (case i3 => k_is); (case l3 => k_is); (case c3 => k_is); (case k3 => k_is); (case a4 => k_is); (case i4 => k_is); (case l4 => k_is); (case c4 => k_is); (case k4 => k_is); (case a5 => k_is); (case i5 => k_is); (case l5 => k_is); (case c5 => k_is); (case k5 => k_is); (case a6 => k_is); (case i6 => k_is); (case l6 => k_is); (case c6 => k_is); (case k6 => k_is); (case a7 => k_is); (case i7 => k_is); (case l7 => k_is); (case c7 => k_is); (case k7 => k_is); (case a8 => k_is); (case i8 => k_is); (case l8 => k_is); (case c8 => k_is); (case k8 => k_is); (case a9 => k_is); (case i9 => k_is); (case l9 => k_is); (case c9 => k_is); (case k9 => k_is); (case a10 => k_is); (case i10 => k_is); (case l10 => k_is); (case c10 => k_is); (case k10 => k_is); (case a11 => k_is); (case i11 => k_is); (case l11 => k_is); (case c11 => k_is); (case k11 => k_is)
    obtain ⟨CR, XCR⟩ : ∃ C, NT.X_Reader (L2.KOf KX) mg C := by
      dsimp only [L2.KOf]
      refine' NT.x_Reader_mk KX G ?aC ?pg ?hd ?po ?sa ?mk ?kc ?n_calls ?n_place ?a0 ?i0 ?l0 ?c0 ?k0 ?a1 ?i1 ?l1 ?c1 ?k1 ?a2 ?i2 ?l2 ?c2 ?k2 ?a3 ?i3 ?l3 ?c3 ?k3
      (case aC => k_is); (case pg => k_is); (case hd => k_is); (case po => k_is); (case sa => k_is); (case mk => k_is); (case kc => k_is); (case n_calls => k_is); (case n_place => k_is); (case a0 => k_is); (case i0 => k_is); (case l0 => k_is); (case c0 => k_is); (case k0 => k_is); (case a1 => k_is); (case i1 => k_is); (case l1 => k_is); (case c1 => k_is); (case k1 => k_is); (case a2 => k_is); (case i2 => k_is); (case l2 => k_is); (case c2 => k_is); (case k2 => k_is); (case a3 => k_is); (case i3 => k_is); (case l3 => k_is); (case c3 => k_is); (case k3 => k_is)
    have d_sum_of_bytes : NT.Df (L2.KOf KX) mg "sum_of_bytes" "sum_of_bytes" NT.s_sum_of_bytes ["row"] := by
      dsimp only [L2.KOf]
      refine' NT.df_mk KX G ?a ?l ?c ?k (fun _ _ _ _ _ _ us hl => match us, hl with | [_], _ => rfl)
      (case a => k_is); (case l => k_is); (case c => k_is); (case k => k_is)
    have d_eight_bytes : NT.Df (L2.KOf KX) mg "eight_bytes" "eight_bytes" NT.s_eight_bytes ["number"] := by
      dsimp only [L2.KOf]
      refine' NT.df_mk KX G ?a ?l ?c ?k (fun _ _ _ _ _ _ us hl => match us, hl with | [_], _ => rfl)
      (case a => k_is); (case l => k_is); (case c => k_is); (case k => k_is)
    have d_number_of_bytes : NT.Df (L2.KOf KX) mg "number_of_bytes" "number_of_bytes" NT.s_number_of_bytes ["row"] := by
      dsimp only [L2.KOf]
      refine' NT.df_mk KX G ?a ?l ?c ?k (fun _ _ _ _ _ _ us hl => match us, hl with | [_], _ => rfl)
      (case a => k_is); (case l => k_is); (case c => k_is); (case k => k_is)
    have d_number_of_halves : NT.Df (L2.KOf KX) mg "number_of_halves" "number_of_halves" NT.s_number_of_halves ["high", "low"] := by
      dsimp only [L2.KOf]
      refine' NT.df_mk KX G ?a ?l ?c ?k (fun _ _ _ _ _ _ us hl => match us, hl with | [_, _], _ => rfl)
      (case a => k_is); (case l => k_is); (case c => k_is); (case k => k_is)
    have d_halves : NT.Df (L2.KOf KX) mg "halves" "halves" NT.s_halves ["number"] := by
      dsimp only [L2.KOf]
      refine' NT.df_mk KX G ?a ?l ?c ?k (fun _ _ _ _ _ _ us hl => match us, hl with | [_], _ => rfl)
      (case a => k_is); (case l => k_is); (case c => k_is); (case k => k_is)
    have d_first_seal : NT.Df (L2.KOf KX) mg "first_seal" "first_seal" NT.s_first_seal ["key", "root", "serial"] := by
      dsimp only [L2.KOf]
      refine' NT.df_mk KX G ?a ?l ?c ?k (fun _ _ _ _ _ _ us hl => match us, hl with | [_, _, _], _ => rfl)
      (case a => k_is); (case l => k_is); (case c => k_is); (case k => k_is)
    have d_seal_behind : NT.Df (L2.KOf KX) mg "seal_behind" "seal_behind" NT.s_seal_behind ["seal", "caveat"] := by
      dsimp only [L2.KOf]
      refine' NT.df_mk KX G ?a ?l ?c ?k (fun _ _ _ _ _ _ us hl => match us, hl with | [_, _], _ => rfl)
      (case a => k_is); (case l => k_is); (case c => k_is); (case k => k_is)
    have d_right_seal : NT.Df (L2.KOf KX) mg "right_seal" "right_seal" NT.s_right_seal ["token", "key"] := by
      dsimp only [L2.KOf]
      refine' NT.df_mk KX G ?a ?l ?c ?k (fun _ _ _ _ _ _ us hl => match us, hl with | [_, _], _ => rfl)
      (case a => k_is); (case l => k_is); (case c => k_is); (case k => k_is)
    have d_caveat_row : NT.Df (L2.KOf KX) mg "caveat_row" "caveat_row" NT.s_caveat_row ["caveat"] := by
      dsimp only [L2.KOf]
      refine' NT.df_mk KX G ?a ?l ?c ?k (fun _ _ _ _ _ _ us hl => match us, hl with | [_], _ => rfl)
      (case a => k_is); (case l => k_is); (case c => k_is); (case k => k_is)
    have d_token_row : NT.Df (L2.KOf KX) mg "token_row" "token_row" NT.s_token_row ["token"] := by
      dsimp only [L2.KOf]
      refine' NT.df_mk KX G ?a ?l ?c ?k (fun _ _ _ _ _ _ us hl => match us, hl with | [_], _ => rfl)
      (case a => k_is); (case l => k_is); (case c => k_is); (case k => k_is)
    have d_read_caveat : NT.Df (L2.KOf KX) mg "read_caveat" "read_caveat" NT.s_read_caveat ["row", "place"] := by
      dsimp only [L2.KOf]
      refine' NT.df_mk KX G ?a ?l ?c ?k (fun _ _ _ _ _ _ us hl => match us, hl with | [_, _], _ => rfl)
      (case a => k_is); (case l => k_is); (case c => k_is); (case k => k_is)
    have d_read_token : NT.Df (L2.KOf KX) mg "read_token" "read_token" NT.s_read_token ["row"] := by
      dsimp only [L2.KOf]
      refine' NT.df_mk KX G ?a ?l ?c ?k (fun _ _ _ _ _ _ us hl => match us, hl with | [_], _ => rfl)
      (case a => k_is); (case l => k_is); (case c => k_is); (case k => k_is)
    have d_check : NT.Df (L2.KOf KX) mg "check" "check" NT.s_check ["row"] := by
      dsimp only [L2.KOf]
      refine' NT.df_mk KX G ?a ?l ?c ?k (fun _ _ _ _ _ _ us hl => match us, hl with | [_], _ => rfl)
      (case a => k_is); (case l => k_is); (case c => k_is); (case k => k_is)
    have d_narrow : NT.Df (L2.KOf KX) mg "narrow" "narrow" NT.s_narrow ["kind", "row", "argument"] := by
      dsimp only [L2.KOf]
      refine' NT.df_mk KX G ?a ?l ?c ?k (fun _ _ _ _ _ _ us hl => match us, hl with | [_, _, _], _ => rfl)
      (case a => k_is); (case l => k_is); (case c => k_is); (case k => k_is)
    have d_with_caveat : NT.Df (L2.KOf KX) mg "with_caveat" "with_caveat" NT.s_with_caveat ["token", "caveat"] := by
      dsimp only [L2.KOf]
      refine' NT.df_mk KX G ?a ?l ?c ?k (fun _ _ _ _ _ _ us hl => match us, hl with | [_, _], _ => rfl)
      (case a => k_is); (case l => k_is); (case c => k_is); (case k => k_is)
    have d_tell_sum : NT.Df (L2.KOf KX) mg "tell_sum" "tell_sum" NT.s_tell_sum ["row"] := by
      dsimp only [L2.KOf]
      refine' NT.df_mk KX G ?a ?l ?c ?k (fun _ _ _ _ _ _ us hl => match us, hl with | [_], _ => rfl)
      (case a => k_is); (case l => k_is); (case c => k_is); (case k => k_is)
    have d_parts : NT.Df (L2.KOf KX) mg "parts" "parts" NT.s_parts ["row"] := by
      dsimp only [L2.KOf]
      refine' NT.df_mk KX G ?a ?l ?c ?k (fun _ _ _ _ _ _ us hl => match us, hl with | [_], _ => rfl)
      (case a => k_is); (case l => k_is); (case c => k_is); (case k => k_is)
    have d_first_that_fails : NT.Df (L2.KOf KX) mg "first_that_fails" "first_that_fails" NT.s_first_that_fails ["caveats", "request"] := by
      dsimp only [L2.KOf]
      refine' NT.df_mk KX G ?a ?l ?c ?k (fun _ _ _ _ _ _ us hl => match us, hl with | [_, _], _ => rfl)
      (case a => k_is); (case l => k_is); (case c => k_is); (case k => k_is)
    have d_holds : NT.Df (L2.KOf KX) mg "holds" "holds" NT.s_holds ["caveat", "request"] := by
      dsimp only [L2.KOf]
      refine' NT.df_mk KX G ?a ?l ?c ?k (fun _ _ _ _ _ _ us hl => match us, hl with | [_, _], _ => rfl)
      (case a => k_is); (case l => k_is); (case c => k_is); (case k => k_is)
    have d_has_op : NT.Df (L2.KOf KX) mg "has_op" "has_op" NT.s_has_op ["ops", "op"] := by
      dsimp only [L2.KOf]
      refine' NT.df_mk KX G ?a ?l ?c ?k (fun _ _ _ _ _ _ us hl => match us, hl with | [_, _], _ => rfl)
      (case a => k_is); (case l => k_is); (case c => k_is); (case k => k_is)
    have d_is_counted : NT.Df (L2.KOf KX) mg "is_counted" "is_counted" NT.s_is_counted ["caveats"] := by
      dsimp only [L2.KOf]
      refine' NT.df_mk KX G ?a ?l ?c ?k (fun _ _ _ _ _ _ us hl => match us, hl with | [_], _ => rfl)
      (case a => k_is); (case l => k_is); (case c => k_is); (case k => k_is)
    have d_without_root : NT.Df (L2.KOf KX) mg "without_root" "without_root" NT.s_without_root ["entries", "root"] := by
      dsimp only [L2.KOf]
      refine' NT.df_mk KX G ?a ?l ?c ?k (fun _ _ _ _ _ _ us hl => match us, hl with | [_, _], _ => rfl)
      (case a => k_is); (case l => k_is); (case c => k_is); (case k => k_is)
    have d_answers : NT.Df (L2.KOf KX) mg "answers" "answers" NT.s_answers ["calls"] := by
      dsimp only [L2.KOf]
      refine' NT.df_mk KX G ?a ?l ?c ?k (fun _ _ _ _ _ _ us hl => match us, hl with | [_], _ => rfl)
      (case a => k_is); (case l => k_is); (case c => k_is); (case k => k_is)
    have d_answer_next : NT.Df (L2.KOf KX) mg "answer_next" "answer_next" NT.s_answer_next ["service", "reader"] := by
      dsimp only [L2.KOf]
      refine' NT.df_mk KX G ?a ?l ?c ?k (fun _ _ _ _ _ _ us hl => match us, hl with | [_, _], _ => rfl)
      (case a => k_is); (case l => k_is); (case c => k_is); (case k => k_is)
    have d_answer_call : NT.Df (L2.KOf KX) mg "answer_call" "answer_call" NT.s_answer_call ["service", "call", "numbers", "rows"] := by
      dsimp only [L2.KOf]
      refine' NT.df_mk KX G ?a ?l ?c ?k (fun _ _ _ _ _ _ us hl => match us, hl with | [_, _, _, _], _ => rfl)
      (case a => k_is); (case l => k_is); (case c => k_is); (case k => k_is)
    have c_FIRST_SUM : ∃ t, mg "FIRST_SUM" = some (.int 14695981039346656037 t) := by
      refine' NT.cst_mk KX G ?a
      (case a => k_is)
    have c_SUM_FACTOR : ∃ t, mg "SUM_FACTOR" = some (.int 1099511628211 t) := by
      refine' NT.cst_mk KX G ?a
      (case a => k_is)
    have c_TWO_TO_32 : ∃ t, mg "TWO_TO_32" = some (.int 4294967296 t) := by
      refine' NT.cst_mk KX G ?a
      (case a => k_is)
    have c_TWO_TO_64 : ∃ t, mg "TWO_TO_64" = some (.int 18446744073709551616 t) := by
      refine' NT.cst_mk KX G ?a
      (case a => k_is)
    have c_SERIAL_PLACE : ∃ t, mg "SERIAL_PLACE" = some (.int 1 t) := by
      refine' NT.cst_mk KX G ?a
      (case a => k_is)
    have c_COUNT_PLACE : ∃ t, mg "COUNT_PLACE" = some (.int 9 t) := by
      refine' NT.cst_mk KX G ?a
      (case a => k_is)
    have c_CAVEATS_PLACE : ∃ t, mg "CAVEATS_PLACE" = some (.int 10 t) := by
      refine' NT.cst_mk KX G ?a
      (case a => k_is)
    have c_SEAL_LENGTH : ∃ t, mg "SEAL_LENGTH" = some (.int 8 t) := by
      refine' NT.cst_mk KX G ?a
      (case a => k_is)
    have c_MOST_CAVEATS : ∃ t, mg "MOST_CAVEATS" = some (.int 6 t) := by
      refine' NT.cst_mk KX G ?a
      (case a => k_is)
    have c_CAVEAT_HEAD : ∃ t, mg "CAVEAT_HEAD" = some (.int 2 t) := by
      refine' NT.cst_mk KX G ?a
      (case a => k_is)
    have c_HIGHEST_KIND : ∃ t, mg "HIGHEST_KIND" = some (.int 255 t) := by
      refine' NT.cst_mk KX G ?a
      (case a => k_is)
    have c_LONGEST_ARGUMENT : ∃ t, mg "LONGEST_ARGUMENT" = some (.int 16 t) := by
      refine' NT.cst_mk KX G ?a
      (case a => k_is)
    have c_FIRST_SEAL_MARK : ∃ t, mg "FIRST_SEAL_MARK" = some (.int 0 t) := by
      refine' NT.cst_mk KX G ?a
      (case a => k_is)
    have c_CAVEAT_SEAL_MARK : ∃ t, mg "CAVEAT_SEAL_MARK" = some (.int 1 t) := by
      refine' NT.cst_mk KX G ?a
      (case a => k_is)
    have c_KIND_BEFORE : ∃ t, mg "KIND_BEFORE" = some (.int 1 t) := by
      refine' NT.cst_mk KX G ?a
      (case a => k_is)
    have c_KIND_FROM : ∃ t, mg "KIND_FROM" = some (.int 2 t) := by
      refine' NT.cst_mk KX G ?a
      (case a => k_is)
    have c_KIND_OPS : ∃ t, mg "KIND_OPS" = some (.int 3 t) := by
      refine' NT.cst_mk KX G ?a
      (case a => k_is)
    have c_KIND_PATH : ∃ t, mg "KIND_PATH" = some (.int 4 t) := by
      refine' NT.cst_mk KX G ?a
      (case a => k_is)
    have c_KIND_USES : ∃ t, mg "KIND_USES" = some (.int 5 t) := by
      refine' NT.cst_mk KX G ?a
      (case a => k_is)
    have c_MOMENT_LENGTH : ∃ t, mg "MOMENT_LENGTH" = some (.int 8 t) := by
      refine' NT.cst_mk KX G ?a
      (case a => k_is)
    have c_OPS_LENGTH : ∃ t, mg "OPS_LENGTH" = some (.int 4 t) := by
      refine' NT.cst_mk KX G ?a
      (case a => k_is)
    have c_USES_LENGTH : ∃ t, mg "USES_LENGTH" = some (.int 4 t) := by
      refine' NT.cst_mk KX G ?a
      (case a => k_is)
    have c_HOW_MANY_OPS : ∃ t, mg "HOW_MANY_OPS" = some (.int 32 t) := by
      refine' NT.cst_mk KX G ?a
      (case a => k_is)
    have c_HIGHEST_ROOT : ∃ t, mg "HIGHEST_ROOT" = some (.int 7 t) := by
      refine' NT.cst_mk KX G ?a
      (case a => k_is)
    have c_KEY_LENGTH : ∃ t, mg "KEY_LENGTH" = some (.int 8 t) := by
      refine' NT.cst_mk KX G ?a
      (case a => k_is)
    have c_MOST_REVOCATIONS : ∃ t, mg "MOST_REVOCATIONS" = some (.int 16 t) := by
      refine' NT.cst_mk KX G ?a
      (case a => k_is)
    have c_MOST_COUNTS : ∃ t, mg "MOST_COUNTS" = some (.int 16 t) := by
      refine' NT.cst_mk KX G ?a
      (case a => k_is)
    have c_INIT : ∃ t, mg "INIT" = some (.int 0 t) := by
      refine' NT.cst_mk KX G ?a
      (case a => k_is)
    have c_ROOT : ∃ t, mg "ROOT" = some (.int 1 t) := by
      refine' NT.cst_mk KX G ?a
      (case a => k_is)
    have c_UNROOT : ∃ t, mg "UNROOT" = some (.int 2 t) := by
      refine' NT.cst_mk KX G ?a
      (case a => k_is)
    have c_ISSUE : ∃ t, mg "ISSUE" = some (.int 3 t) := by
      refine' NT.cst_mk KX G ?a
      (case a => k_is)
    have c_CHECK : ∃ t, mg "CHECK" = some (.int 4 t) := by
      refine' NT.cst_mk KX G ?a
      (case a => k_is)
    have c_NARROW : ∃ t, mg "NARROW" = some (.int 5 t) := by
      refine' NT.cst_mk KX G ?a
      (case a => k_is)
    have c_ALLOW : ∃ t, mg "ALLOW" = some (.int 6 t) := by
      refine' NT.cst_mk KX G ?a
      (case a => k_is)
    have c_REVOKE : ∃ t, mg "REVOKE" = some (.int 7 t) := by
      refine' NT.cst_mk KX G ?a
      (case a => k_is)
    have c_USES : ∃ t, mg "USES" = some (.int 8 t) := by
      refine' NT.cst_mk KX G ?a
      (case a => k_is)
    have c_RIGHT : ∃ t, mg "RIGHT" = some (.int 9 t) := by
      refine' NT.cst_mk KX G ?a
      (case a => k_is)
    have c_SUM : ∃ t, mg "SUM" = some (.int 10 t) := by
      refine' NT.cst_mk KX G ?a
      (case a => k_is)
    have c_HOW_MANY_NUMBERS : ∃ a, mg "HOW_MANY_NUMBERS" = some (.ref a) ∧ NT.TupK (L2.KOf KX) a [0, 1, 1, 3, 0, 1, 2, 3, 3, 0, 0, 0] := by
      dsimp only [L2.KOf]
      refine' NT.tup_HOW_MANY_NUMBERS_mk KX G ?e ?l
      (case e => k_is); (case l => k_is)
    have c_HOW_MANY_ROWS : ∃ a, mg "HOW_MANY_ROWS" = some (.ref a) ∧ NT.TupK (L2.KOf KX) a [0, 1, 0, 0, 1, 2, 2, 0, 0, 1, 1, 1] := by
      dsimp only [L2.KOf]
      refine' NT.tup_HOW_MANY_ROWS_mk KX G ?e ?l
      (case e => k_is); (case l => k_is)
    have b_len : mg "len" = none := by
      refine' PySem.W.mg_none_of KX G ?a
      (case a => k_is)
    have b_range : mg "range" = none := by
      refine' PySem.W.mg_none_of KX G ?a
      (case a => k_is)
    have b_reversed : mg "reversed" = none := by
      refine' PySem.W.mg_none_of KX G ?a
      (case a => k_is)
    have b_any : mg "any" = none := by
      refine' PySem.W.mg_none_of KX G ?a
      (case a => k_is)
    have T : NT.Txt (L2.KOf KX) mg CC CT CQ CS CR := {
      c_FIRST_SUM := c_FIRST_SUM,
      c_SUM_FACTOR := c_SUM_FACTOR,
      c_TWO_TO_32 := c_TWO_TO_32,
      c_TWO_TO_64 := c_TWO_TO_64,
      c_SERIAL_PLACE := c_SERIAL_PLACE,
      c_COUNT_PLACE := c_COUNT_PLACE,
      c_CAVEATS_PLACE := c_CAVEATS_PLACE,
      c_SEAL_LENGTH := c_SEAL_LENGTH,
      c_MOST_CAVEATS := c_MOST_CAVEATS,
      c_CAVEAT_HEAD := c_CAVEAT_HEAD,
      c_HIGHEST_KIND := c_HIGHEST_KIND,
      c_LONGEST_ARGUMENT := c_LONGEST_ARGUMENT,
      c_FIRST_SEAL_MARK := c_FIRST_SEAL_MARK,
      c_CAVEAT_SEAL_MARK := c_CAVEAT_SEAL_MARK,
      c_KIND_BEFORE := c_KIND_BEFORE,
      c_KIND_FROM := c_KIND_FROM,
      c_KIND_OPS := c_KIND_OPS,
      c_KIND_PATH := c_KIND_PATH,
      c_KIND_USES := c_KIND_USES,
      c_MOMENT_LENGTH := c_MOMENT_LENGTH,
      c_OPS_LENGTH := c_OPS_LENGTH,
      c_USES_LENGTH := c_USES_LENGTH,
      c_HOW_MANY_OPS := c_HOW_MANY_OPS,
      c_HIGHEST_ROOT := c_HIGHEST_ROOT,
      c_KEY_LENGTH := c_KEY_LENGTH,
      c_MOST_REVOCATIONS := c_MOST_REVOCATIONS,
      c_MOST_COUNTS := c_MOST_COUNTS,
      c_INIT := c_INIT,
      c_ROOT := c_ROOT,
      c_UNROOT := c_UNROOT,
      c_ISSUE := c_ISSUE,
      c_CHECK := c_CHECK,
      c_NARROW := c_NARROW,
      c_ALLOW := c_ALLOW,
      c_REVOKE := c_REVOKE,
      c_USES := c_USES,
      c_RIGHT := c_RIGHT,
      c_SUM := c_SUM,
      c_HOW_MANY_NUMBERS := c_HOW_MANY_NUMBERS,
      c_HOW_MANY_ROWS := c_HOW_MANY_ROWS,
      b_len := b_len,
      b_range := b_range,
      b_reversed := b_reversed,
      b_any := b_any,
      d_sum_of_bytes := d_sum_of_bytes,
      d_eight_bytes := d_eight_bytes,
      d_number_of_bytes := d_number_of_bytes,
      d_number_of_halves := d_number_of_halves,
      d_halves := d_halves,
      d_first_seal := d_first_seal,
      d_seal_behind := d_seal_behind,
      d_right_seal := d_right_seal,
      d_caveat_row := d_caveat_row,
      d_token_row := d_token_row,
      d_read_caveat := d_read_caveat,
      d_read_token := d_read_token,
      d_check := d_check,
      d_narrow := d_narrow,
      d_with_caveat := d_with_caveat,
      d_tell_sum := d_tell_sum,
      d_parts := d_parts,
      d_first_that_fails := d_first_that_fails,
      d_holds := d_holds,
      d_has_op := d_has_op,
      d_is_counted := d_is_counted,
      d_without_root := d_without_root,
      d_answers := d_answers,
      d_answer_next := d_answer_next,
      d_answer_call := d_answer_call,
      cl_Caveat := XCC.cl,
      mg_Caveat := XCC.mgC,
      n_Caveat_kind := XCC.n_kind,
      n_Caveat_argument := XCC.n_argument,
      cl_Token := XCT.cl,
      mg_Token := XCT.mgC,
      n_Token_root := XCT.n_root,
      n_Token_serial := XCT.n_serial,
      n_Token_caveats := XCT.n_caveats,
      n_Token_seal := XCT.n_seal,
      cl_Request := XCQ.cl,
      mg_Request := XCQ.mgC,
      n_Request_now := XCQ.n_now,
      n_Request_op := XCQ.n_op,
      n_Request_path := XCQ.n_path,
      n_Request_use_count := XCQ.n_use_count,
      cl_Service := XCS.cl,
      mg_Service := XCS.mgC,
      n_Service_root_keys := XCS.n_root_keys,
      n_Service_revocations := XCS.n_revocations,
      n_Service_counts := XCS.n_counts,
      cl_Reader := XCR.cl,
      mg_Reader := XCR.mgC,
      n_Reader_calls := XCR.n_calls,
      n_Reader_place := XCR.n_place,
      n_Service_at_end := XCS.n_at_end,
      d_Caveat_init := XCC.d_init,
      d_Token_init := XCT.d_init,
      d_Request_init := XCQ.d_init,
      d_Service_init := XCS.d_init,
      d_Service_begin_anew := XCS.d_begin_anew,
      d_Service_set_key := XCS.d_set_key,
      d_Service_take_key := XCS.d_take_key,
      d_Service_forget_serials := XCS.d_forget_serials,
      d_Service_issue := XCS.d_issue,
      d_Service_allow := XCS.d_allow,
      d_Service_seal_is_right := XCS.d_seal_is_right,
      d_Service_count_use := XCS.d_count_use,
      d_Service_revoke := XCS.d_revoke,
      d_Service_uses := XCS.d_uses,
      d_Service_right := XCS.d_right,
      d_Reader_init := XCR.d_init,
      d_Reader_at_end := XCR.d_at_end,
      d_Reader_take_number := XCR.d_take_number,
      d_Reader_take_row := XCR.d_take_row }
    refine' NT.fin_mk KX G hmg T ?a ?l ?c ?k
    (case a => k_is); (case l => k_is); (case c => k_is); (case k => k_is)
  case S =>
    intro K H xs a hO hwi hask hx
    cases hx with
    | cons h1 h2 =>
      cases h2
      cases h1 with
      | lst hs ha =>
        have e := L2.ints_dw a.1 _ ha
        subst e
        have q : ((Codec.inLen 0 30000 a.1 && a.1.all (Codec.inInt 0 4294967295)) && true) = true := hwi
        rw [Bool.and_eq_true, Bool.and_eq_true] at q
        exact ⟨_, a.1, rfl, hs, (Codec.inNat_iff.mp q.1.1).2, hask, fun H' p hp => .lst (L2.SqL.of hp) (L2.dw_ints _)⟩
#print axioms PySem.Challenge.cw_narrowtokens_s01_answers_holds
