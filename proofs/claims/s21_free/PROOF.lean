import PyProof.Rows.All
import Wide.All
import OpenK.AllK
import Wide.FinOn
import PyProof.EqAt
import PyProof.EqKinds
import PyProof.TupleCall
import KE.BitLaws
import Open.SpecLaws
import KE.OsHead
import KE.OsGo
import PySem.Challenge.RW_interlace_s21_free
set_option Elab.async false
set_option linter.all false
set_option maxRecDepth 100000
/-! THE HAND LAYER, for ints, bools, texts, own classes, lists, tuples, dicts, comprehensions, walks over dicts, enumerate, zip, reversed, texts, calls, loops. Paste it whole ahead of your own text; what your proof does not reach may be deleted. -/
namespace L2
open PySem PySem.Spec PyProof.Rows

/-- a key: an int or a str -/
abbrev Key := Sum Int Str
def keyIs : Key → Value → Bool
  | .inl k, v => Value.isInt k v
  | .inr x, v => Value.isStrOf x v
def keyH (w : World) : Key → Int
  | .inl k => hashInt k
  | .inr x => hashStr w x
theorem keyIs_shape : ∀ {k : Key} {v : Value}, keyIs k v = true → (∃ i t, k = Sum.inl i ∧ v = Value.int i t) ∨ (∃ x t, k = Sum.inr x ∧ v = Value.str x t)
  | .inl i, v, h => by
    obtain ⟨t, e⟩ := Value.isInt_shape (k := i) (v := v) h
    exact .inl ⟨i, t, rfl, e⟩
  | .inr x, v, h => by
    obtain ⟨t, e⟩ := Value.isStrOf_shape (x := x) (v := v) h
    exact .inr ⟨x, t, rfl, e⟩
theorem keyIs_int (i : Int) (t : Tok) : keyIs (.inl i) (.int i t) = true := by simp [keyIs, Value.isInt]
theorem keyIs_str (x : Str) (t : Tok) : keyIs (.inr x) (.str x t) = true := by simp [keyIs, Value.isStrOf]
theorem key_ll (a b : Int) : decide ((Sum.inl a : Key) = Sum.inl b) = (a == b) := by
  by_cases e : a = b
  · subst e; simp
  · have h : ¬ (Sum.inl a : Key) = Sum.inl b := fun q => e (Sum.inl.inj q)
    rw [decide_eq_false h]
    exact (beq_eq_false_iff_ne.mpr e).symm
theorem key_rr (a b : Str) : decide ((Sum.inr a : Key) = Sum.inr b) = decide (a = b) := by
  by_cases e : a = b
  · subst e; simp
  · have h : ¬ (Sum.inr a : Key) = Sum.inr b := fun q => e (Sum.inr.inj q)
    rw [decide_eq_false h, decide_eq_false e]
theorem key_lr (a : Int) (b : Str) : decide ((Sum.inl a : Key) = Sum.inr b) = false := decide_eq_false (fun q => nomatch q)
theorem key_rl (a : Str) (b : Int) : decide ((Sum.inr a : Key) = Sum.inl b) = false := decide_eq_false (fun q => nomatch q)

def mixKind (prog : Program) (w : World) : PySem.KeyKind prog w Key where
  is := keyIs
  hash := keyH w
  inj := fun v a b ha hb => by
    rcases keyIs_shape ha with ⟨i, t, rfl, rfl⟩ | ⟨x, t, rfl, rfl⟩
    · rcases keyIs_shape hb with ⟨j, u, rfl, e⟩ | ⟨y, u, rfl, e⟩
      · injection e with e1 _; rw [e1]
      · exact nomatch e
    · rcases keyIs_shape hb with ⟨j, u, rfl, e⟩ | ⟨y, u, rfl, e⟩
      · exact nomatch e
      · injection e with e1 _; rw [e1]
  byValue := fun k v h => by
    rcases keyIs_shape h with ⟨i, t, rfl, rfl⟩ | ⟨x, t, rfl, rfl⟩ <;> rfl
  pyHash := fun hv h => by
    rcases keyIs_shape hv with ⟨i, t, rfl, rfl⟩ | ⟨x, t, rfl, rfl⟩
    · exact wpAny_pyHash_int h
    · exact wpAny_pyHash_str h
  eqBool := fun hu hv h => by
    rcases keyIs_shape hu with ⟨i, t, rfl, rfl⟩ | ⟨x, t, rfl, rfl⟩
    · rcases keyIs_shape hv with ⟨j, u, rfl, rfl⟩ | ⟨y, u, rfl, rfl⟩
      · rw [key_ll] at h; exact wpAny_eqBool_int h
      · rw [key_lr] at h; exact SeqAt.EqAt.int_str i t y u _ _ _ _ h
    · rcases keyIs_shape hv with ⟨j, u, rfl, rfl⟩ | ⟨y, u, rfl, rfl⟩
      · rw [key_rl] at h; exact SeqAt.EqAt.str_int x t j u _ _ _ _ h
      · rw [key_rr] at h; exact wpAny_eqBool_str h
  «strs» := fun k x t v h => by
    rcases keyIs_shape h with ⟨i, u, rfl, e⟩ | ⟨y, u, rfl, e⟩
    · exact nomatch e
    · injection e with e1 _
      subst e1
      cases v <;> rfl

theorem mixKind_int (prog : Program) (w : World) (i : Int) (t : Tok) : (mixKind prog w).is (.inl i) (.int i t) = true := keyIs_int i t
theorem mixKind_str (prog : Program) (w : World) (x : Str) (t : Tok) : (mixKind prog w).is (.inr x) (.str x t) = true := keyIs_str x t
end L2

namespace L2
open PySem PySem.Spec PyProof.Rows

/-- a value, without the heap -/
inductive V where
  | non | bl (b : Bool) | int (i : Int) | str (x : Str) | byt (b : Array UInt8) | flt (b : UInt64) | ref (a : Addr) | ty (n : String)
  deriving DecidableEq

def RelV : V → Value → Prop
  | .non, u => u = Value.none
  | .bl b, u => u = Value.bool b
  | .int i, u => ∃ t, u = Value.int i t
  | .str x, u => ∃ t, u = Value.str x t
  | .byt b, u => ∃ t, u = Value.bytes b t
  | .flt b, u => ∃ t, u = Value.float b t
  | .ref a, u => u = Value.ref a
  | .ty n, u => u = Value.type n

abbrev Vals : List V → List Value → Prop := Paired RelV
theorem Vals.length {xs : List V} {us : List Value} (r : Vals xs us) : xs.length = us.length := Paired.length r
theorem Vals.get : ∀ {xs : List V} {us : List Value} {i : Nat} {x : V}, Vals xs us → xs[i]? = some x → ∃ u, us[i]? = some u ∧ RelV x u
  | _, _, _, _, .nil, e => by simp at e
  | _, _, 0, _, .cons r _, e => by simp at e; subst e; exact ⟨_, rfl, r⟩
  | _, _, i + 1, x, .cons _ t, e => by
    obtain ⟨u, h1, h2⟩ := Vals.get (i := i) (x := x) t (by simpa using e)
    exact ⟨u, by simpa using h1, h2⟩
theorem Vals.set {x : V} {u : Value} (r : RelV x u) : ∀ {xs : List V} {us : List Value} (i : Nat), Vals xs us → Vals (xs.set i x) (us.set i u)
  | _, _, _, .nil => .nil
  | _, _, 0, .cons _ t => .cons r t
  | _, _, i + 1, .cons q t => .cons q (Vals.set r i t)
theorem Vals.append : ∀ {xs ys : List V} {us ws : List Value}, Vals xs us → Vals ys ws → Vals (xs ++ ys) (us ++ ws)
  | _, _, _, _, .nil, s => s
  | _, _, _, _, .cons r t, s => .cons r (Vals.append t s)
theorem Vals.take : ∀ {xs : List V} {us : List Value} (n : Nat), Vals xs us → Vals (xs.take n) (us.take n)
  | _, _, 0, _ => .nil
  | _, _, _ + 1, .nil => .nil
  | _, _, n + 1, .cons r t => .cons r (Vals.take n t)
theorem Vals.drop : ∀ {xs : List V} {us : List Value} (n : Nat), Vals xs us → Vals (xs.drop n) (us.drop n)
  | _, _, 0, r => r
  | _, _, _ + 1, .nil => .nil
  | _, _, n + 1, .cons _ t => Vals.drop n t

def RelO : Option V → Option Value → Prop
  | some v, some u => RelV v u
  | none, none => True
  | _, _ => False
def KV {κ : Type} : List (κ × V) → List (κ × Value) → Prop := Paired fun (p : κ × V) (q : κ × Value) => p.1 = q.1 ∧ RelV p.2 q.2

/-- a key of a dict (00_mix): an int or a text -/
def kV : Key → V
  | .inl i => .int i
  | .inr x => .str x

/-- what stands at a tracked address -/
inductive HO where
  /-- a list -/
  | lst (xs : List V)
  /-- a tuple (never changes) -/
  | tup (xs : List V)
  /-- a dict whose keys are ints and texts; one whose keys are tuples of ints and texts (the empty one is both) -/
  | dK (kvs : List (Key × V)) | dT (kvs : List (List Key × V))
  /-- a set of ints: its members, its size -/
  | set (S : Int → Bool) (n : Nat)
  /-- an instance of the class at C, its dict at dx, its attributes -/
  | ins (C dx : Addr) (fs : List (Str × V))
  /-- the dict of the instance at x -/
  | own (x : Addr)
  /-- the dict of an exception -/
  | xd (fs : List (Str × V))
  /-- a bound method, f of x -/
  | met (f x : Addr)
  /-- a range object lo, lo + 1, .. below hi -/
  | rng (lo hi : Int)
  /-- a thing that is known to the object (the script; a dict while a loop walks it): read, never written while it is so -/
  | frz (o : Obj) (u : HO)
  /-- a code object's table -/
  | tbl (ps : Array Value)
  /-- any other thing, by what is true of its one object (a def of one's own: SetO a S n := HO.ext fun h => ..) -/
  | ext (φ : Heap → Prop)

abbrev Hp := Addr → Option HO
def upd (H : Hp) (a : Addr) (o : HO) : Hp := fun b => if b = a then some o else H b
theorem upd_same {H : Hp} {a : Addr} {o : HO} : upd H a o a = some o := by unfold upd; rw [if_pos rfl]
theorem upd_ne {H : Hp} {a b : Addr} {o : HO} (h : b ≠ a) : upd H a o b = H b := by unfold upd; rw [if_neg h]
theorem ne_of_none {H : Hp} {a b : Addr} {o : HO} (h : H a = some o) (h' : H b = none) : a ≠ b := by
  intro e; subst e; rw [h] at h'; cases h'

section
variable (P : Program) (w : World)
def ObjOk (H : Hp) (h : Heap) (a : Addr) : HO → Prop
  | .lst xs => xs.length ≤ sizeLine ∧ ∃ (its : List Value) (n : Nat), Vals xs its ∧ h.get? a = some { cls := .type "list", data := .seq its.toArray n }
  | .tup xs => xs.length ≤ sizeLine ∧ ∃ its : List Value, Vals xs its ∧ IsTup h a its.toArray
  | .dK kvs => kvs.length ≤ sizeLine ∧ (a == sysModules) = false ∧ ∃ vs, KV kvs vs ∧ h.DictOf (mixKind P w) a vs
  | .dT kvs => kvs.length ≤ sizeLine ∧ (a == sysModules) = false ∧ ∃ xs : List (List Key × Addr × Value),
      Paired (fun (p : List Key × V) (q : List Key × Addr × Value) => p.1 = q.1 ∧ H q.2.1 = some (.tup (p.1.map kV)) ∧ RelV p.2 q.2.2) kvs xs ∧
      ∃ o es ep, h.get? a = some o ∧ o.ExactDict ∧ o.data = .dict es ep ∧ es.toList = xs.map (entryOfKey (tupleKind (mixKind P w))) ∧ (xs.map (·.1)).Nodup
  | .set S n => h.SetOf (intKind P w) a S n
  | .ins C dx fs => H dx = some (.own a) ∧ fs.length ≤ 1000 ∧ dx ≠ a ∧ h.get? a = some (PySem.W.instObj C dx) ∧
      ∃ mA, h.Ns1 dx mA ∧ (∀ f, RelO (fs.lookup f) (mA f)) ∧ PySem.Within mA (fs.map (·.1))
  | .own _ => ∃ o, h.get? a = some o
  | .xd fs => ∃ mA, h.Ns1 a mA ∧ ∀ f, RelO (fs.lookup f) (mA f)
  | .rng lo hi => ∃ t u v, h.get? a = some { cls := .type "range", data := .fields #[.int lo t, .int hi u, .int 1 v] }
  | .frz o u => h.get? a = some o ∧ ObjOk H h a u
  | .tbl ps => h.get? a = some { cls := .none, data := .fields ps }
  | .met f x => h.get? a = some (PySem.W.methodObj (.ref f) (.ref x))
  | .ext φ => φ h ∧ (∃ o, h.get? a = some o) ∧ ∀ h1 h2 : Heap, φ h1 → (∀ o, h1.get? a = some o → h2.get? a = some o) → φ h2
/-- the abstract heap is held -/
def HOk (H : Hp) (h : Heap) : Prop := ∀ a o, H a = some o → ObjOk P w H h a o
end

section
variable {P : Program} {w : World} {H H' : Hp} {h h' : Heap} {a : Addr} {o : HO}
theorem ObjOk.lt (x : ObjOk P w H h a o) : a < h.objs.size := by
  cases o with
  | lst xs => obtain ⟨_, _, _, _, e⟩ := x; exact Heap.lt_size e
  | tup xs => obtain ⟨_, _, _, p⟩ := x; exact p.lt
  | dK kvs => obtain ⟨_, _, _, _, o, _, _, e, _⟩ := x; exact Heap.lt_size e
  | dT kvs => obtain ⟨_, _, _, _, o, _, _, e, _⟩ := x; exact Heap.lt_size e
  | set S n => obtain ⟨o, _, _, _, e, _⟩ := x; exact Heap.lt_size e
  | ins C dx fs => obtain ⟨_, _, _, e, _⟩ := x; exact Heap.lt_size e
  | own y => obtain ⟨_, e⟩ := x; exact Heap.lt_size e
  | xd fs => obtain ⟨_, ⟨_, _, _, e, _⟩, _⟩ := x; exact Heap.lt_size e
  | rng lo hi => obtain ⟨_, _, _, e⟩ := x; exact Heap.lt_size e
  | frz ob u => obtain ⟨e, _⟩ := x; exact Heap.lt_size e
  | tbl ps => exact Heap.lt_size (show h.get? a = some _ from x)
  | met f y => exact Heap.lt_size (show h.get? a = some _ from x)
  | ext φ => obtain ⟨_, ⟨_, e⟩, _⟩ := x; exact Heap.lt_size e
theorem Paired.mapP {α β : Type} {F G : α → β → Prop} : ∀ {l₁ : List α} {l₂ : List β}, Paired F l₁ l₂ → (∀ a b, F a b → G a b) → Paired G l₁ l₂
  | _, _, .nil, _ => .nil
  | _, _, .cons r t, f => .cons (f _ _ r) (Paired.mapP t f)
/-- what an object's description leans on: its own object, its own dict, the tuples -/
theorem ObjOk.stay (x : ObjOk P w H h a o) (k : ∀ b u, (b = a ∨ H b = some (.own a)) → h.get? b = some u → h'.get? b = some u)
    (ho : ∀ b, H b = some (.own a) → H' b = some (.own a)) (ht : ∀ b xs, H b = some (.tup xs) → H' b = some (.tup xs)) : ObjOk P w H' h' a o := by
  induction o with
  | lst xs => obtain ⟨z, its, n, r, e⟩ := x; exact ⟨z, its, n, r, k _ _ (.inl rfl) e⟩
  | tup xs => obtain ⟨z, its, r, ob, e, c⟩ := x; exact ⟨z, its, r, ob, k _ _ (.inl rfl) e, c⟩
  | dK kvs => obtain ⟨z, y, vs, r, ob, es, ep, e, c⟩ := x; exact ⟨z, y, vs, r, ob, es, ep, k _ _ (.inl rfl) e, c⟩
  | dT kvs =>
    obtain ⟨z, y, xs, r, ob, es, ep, e, c⟩ := x
    exact ⟨z, y, xs, Paired.mapP r fun p q z => ⟨z.1, ht _ _ z.2.1, z.2.2⟩, ob, es, ep, k _ _ (.inl rfl) e, c⟩
  | set S n => obtain ⟨ob, es, ep, t, e, c⟩ := x; exact ⟨ob, es, ep, t, k _ _ (.inl rfl) e, c⟩
  | ins C dx fs =>
    obtain ⟨d, z, ne, e, mA, ⟨od, es, ep, e2, c⟩, r⟩ := x
    exact ⟨ho _ d, z, ne, k _ _ (.inl rfl) e, mA, ⟨od, es, ep, k _ _ (.inr d) e2, c⟩, r⟩
  | own y => obtain ⟨ob, e⟩ := x; exact ⟨ob, k _ _ (.inl rfl) e⟩
  | xd fs => obtain ⟨mA, ⟨od, es, ep, e, c⟩, r⟩ := x; exact ⟨mA, ⟨od, es, ep, k _ _ (.inl rfl) e, c⟩, r⟩
  | rng lo hi => obtain ⟨t, u, v, e⟩ := x; exact ⟨t, u, v, k _ _ (.inl rfl) e⟩
  | frz ob u ih => obtain ⟨e, q⟩ := x; exact ⟨k _ _ (.inl rfl) e, ih q⟩
  | tbl ps =>
    have e : h.get? a = some { cls := .none, data := .fields ps } := x
    show h'.get? a = some { cls := .none, data := .fields ps }
    exact k a _ (.inl rfl) e
  | met f y =>
    have e : h.get? a = some (PySem.W.methodObj (.ref f) (.ref y)) := x
    show h'.get? a = some (PySem.W.methodObj (.ref f) (.ref y))
    exact k a _ (.inl rfl) e
  | ext φ => obtain ⟨p, ⟨o, e⟩, st⟩ := x; exact ⟨st _ _ p fun o q => k _ _ (.inl rfl) q, ⟨o, k _ _ (.inl rfl) e⟩, st⟩
theorem HOk.lt (x : HOk P w H h) (e : H a = some o) : a < h.objs.size := (x a o e).lt
theorem HOk.fresh (x : HOk P w H h) (e : h.objs.size ≤ a) : H a = none := by
  cases q : H a with
  | none => rfl
  | some u => exact absurd (Nat.lt_of_lt_of_le (x.lt q) e) (Nat.lt_irrefl _)
/-- every object of the heap is kept -/
theorem HOk.kept (x : HOk P w H h) (k : ∀ b u, h.get? b = some u → h'.get? b = some u) : HOk P w H h' := fun a o e =>
  (x a o e).stay (fun b u _ q => k b u q) (fun _ q => q) fun _ _ q => q
/-- a new object is laid and tracked -/
theorem HOk.laid (x : HOk P w H h) (k : ∀ b u, h.get? b = some u → h'.get? b = some u) (hp : h.objs.size ≤ a) (new : ObjOk P w (upd H a o) h' a o) : HOk P w (upd H a o) h' := fun b u e => by
  have hn := x.fresh hp
  by_cases hb : b = a
  · subst hb; rw [upd_same] at e; cases e; exact new
  · rw [upd_ne hb] at e
    exact (x b u e).stay (fun c v _ q => k c v q) (fun c q => by rw [upd_ne (ne_of_none q hn)]; exact q) fun c xs q => by rw [upd_ne (ne_of_none q hn)]; exact q
end

/-- what may be read as u: it is u, or a known u -/
def Rd (H : Hp) (a : Addr) (u : HO) : Prop := H a = some u ∨ ∃ o, H a = some (.frz o u)
theorem Rd.ok {P : Program} {w : World} {H : Hp} {h : Heap} {a : Addr} {u : HO} (r : Rd H a u) (x : HOk P w H h) : ObjOk P w H h a u := by
  rcases r with r | ⟨o, r⟩
  · exact x a u r
  · obtain ⟨_, q⟩ := x a _ r
    exact q
/-- what may be written -/
def Mut : Option HO → Prop
  | some (.lst _) => True
  | some (.dK _) => True
  | some (.dT _) => True
  | some (.set _ _) => True
  | some (.ins _ _ _) => True
  | some (.ext _) => True
  | _ => False
section
variable {P : Program} {w : World} {H : Hp} {h h' : Heap} {x e : Addr} {o' : HO}
/-- the object at e is changed: x itself, or the dict of the instance x -/
theorem HOk.write (ok : HOk P w H h) (mu : Mut (H x)) (he : e = x ∨ H e = some (.own x)) (k : ∀ b u, b ≠ e → h.get? b = some u → h'.get? b = some u) (heo : ∃ u, h'.get? e = some u)
    (new : ObjOk P w (upd H x o') h' x o') : HOk P w (upd H x o') h' := fun b u q => by
  have nown : ∀ c y, H c = some (.own y) → c ≠ x := fun c y r z => by subst z; rw [r] at mu; exact mu
  have ntup : ∀ c xs, H c = some (.tup xs) → c ≠ x := fun c xs r z => by subst z; rw [r] at mu; exact mu
  by_cases hb : b = x
  · subst hb; rw [upd_same] at q; cases q; exact new
  · rw [upd_ne hb] at q
    by_cases hbe : b = e
    · have q' : H b = some (.own x) := by
        rcases he with z | z
        · exact absurd (hbe.trans z) hb
        · rw [hbe]; exact z
      rw [q] at q'; cases q'
      obtain ⟨v, hv⟩ := heo
      exact ⟨v, by rw [hbe]; exact hv⟩
    · refine (ok b u q).stay (fun c v hc r => k c v ?_ r) (fun c r => by rw [upd_ne (nown c b r)]; exact r) fun c xs r => by rw [upd_ne (ntup c xs r)]; exact r
      rcases hc with rfl | hc
      · exact hbe
      · rintro rfl
        rcases he with z | z
        · exact nown c b hc z
        · rw [hc] at z; cases z; exact hb rfl
end

/-! ### kept unless tracked; of the frames at fs (the callers') the slots may change (an exception that passes writes there); of the records at ex (iterators) nothing is said -/
structure Un (fs ex : List Addr) (H H' : Hp) (h h' : Heap) : Prop where
  keep : ∀ b o, h.get? b = some o → H b = none → b ∉ fs → b ∉ ex → h'.get? b = some o
  slot : ∀ b o, h.get? b = some o → H b = none → b ∈ fs → b ∉ ex → ∃ sl, h'.get? b = some { o with slots := sl }
  free : ∀ b o, h.get? b = some o → H b = none → b ∉ ex → H' b = none
  there : ∀ b o, h.get? b = some o → b ∉ ex → ∃ o', h'.get? b = some o'
  tups : ∀ b xs, H b = some (.tup xs) → H' b = some (.tup xs)
  frzs : ∀ b o u, H b = some (.frz o u) → H' b = some (.frz o u)
  tbls : ∀ b ps, H b = some (.tbl ps) → ∃ more, H' b = some (.tbl (ps ++ more))
section
variable {fs fs' ex ex' : List Addr} {H H1 H2 : Hp} {h h1 h2 h' : Heap} {a x e : Addr} {o : HO}
theorem Un.any (u : Un fs ex H H1 h h1) {b : Addr} {ob : Obj} (q : h.get? b = some ob) (n : H b = none) (hx : b ∉ ex) : ∃ sl, h1.get? b = some { ob with slots := sl } := by
  by_cases hb : b ∈ fs
  · exact u.slot b ob q n hb hx
  · exact ⟨ob.slots, u.keep b ob q n hb hx⟩
theorem Un.kept (k : ∀ b u, h.get? b = some u → h'.get? b = some u) : Un fs ex H H h h' :=
  ⟨fun b ob q _ _ _ => k b ob q, fun b ob q _ _ _ => ⟨ob.slots, k b ob q⟩, fun _ _ _ n _ => n, fun b ob q _ => ⟨ob, k b ob q⟩, fun _ _ q => q, fun _ _ _ q => q, fun _ ps q => ⟨#[], by rw [q]; simp⟩⟩
theorem Un.refl : Un fs ex H H h h := Un.kept fun _ _ q => q
theorem Un.laid (k : ∀ b u, h.get? b = some u → h'.get? b = some u) (hp : h.objs.size ≤ a) (hn : H a = none) : Un fs ex H (upd H a o) h h' where
  keep := fun b u q _ _ _ => k b u q
  slot := fun b u q _ _ _ => ⟨u.slots, k b u q⟩
  free := fun b u q n _ => by rw [upd_ne (Nat.ne_of_lt (Nat.lt_of_lt_of_le (Heap.lt_size q) hp))]; exact n
  there := fun b u q _ => ⟨u, k b u q⟩
  tups := fun b xs q => by rw [upd_ne (ne_of_none q hn)]; exact q
  frzs := fun b u xs q => by rw [upd_ne (ne_of_none q hn)]; exact q
  tbls := fun b ps q => ⟨#[], by rw [upd_ne (ne_of_none q hn), q]; simp⟩
theorem Un.write (mu : Mut (H x)) (he : e = x ∨ H e = some (.own x)) (k : ∀ b u, b ≠ e → h.get? b = some u → h'.get? b = some u) (heo : ∃ u, h'.get? e = some u) : Un fs ex H (upd H x o) h h' := by
  have hx : ∀ b, H b = none → b ≠ x := fun b n z => by subst z; rw [n] at mu; exact mu
  have hb : ∀ b, H b = none → b ≠ e := fun b n z => by
    subst z
    rcases he with r | r
    · exact hx b n r
    · rw [n] at r; cases r
  have hm : ∀ b u, H b = some u → ¬ Mut (some u) → b ≠ x := fun b u q nm z => by subst z; rw [q] at mu; exact nm mu
  refine ⟨fun b u q n _ _ => k b u (hb b n) q, fun b u q n _ _ => ⟨u.slots, k b u (hb b n) q⟩, fun b u q n _ => by rw [upd_ne (hx b n)]; exact n, fun b u q _ => ?_,
    fun b xs q => by rw [upd_ne (hm b _ q fun z => z)]; exact q, fun b u xs q => by rw [upd_ne (hm b _ q fun z => z)]; exact q, fun b ps q => ⟨#[], by rw [upd_ne (hm b _ q fun z => z), q]; simp⟩⟩
  by_cases hbe : b = e
  · subst hbe; exact heo
  · exact ⟨u, k b u hbe q⟩
end

/-! ### the heap without what is tracked -/
def trk (h : Heap) (H : Hp) : List Addr := (List.range h.objs.size).filter fun a => (H a).isSome
def hidT (h : Heap) (H : Hp) : Heap := PySem.W.hideAll h (trk h H)
theorem hidT_size (h : Heap) (H : Hp) : (hidT h H).objs.size = h.objs.size := PySem.W.hideAll_size _ _
theorem hidT_get {h : Heap} {H : Hp} {b : Addr} {o : Obj} (e : h.get? b = some o) (n : H b = none) : (hidT h H).get? b = some o :=
  PySem.W.hideAll_get _ e fun hm => by
    have q : (H b).isSome = true := (List.mem_filter.mp hm).2
    rw [n] at q; simp at q
theorem of_hidT {h : Heap} {H : Hp} {b : Addr} {o : Obj} (e : (hidT h H).get? b = some o) : h.get? b = some o ∧ H b = none := by
  have e' : h.get? b = some o := PySem.W.of_hideAll (trk h H) e
  refine ⟨e', ?_⟩
  cases q : H b with
  | none => rfl
  | some x =>
    have hm : b ∈ trk h H := List.mem_filter.mpr ⟨List.mem_range.mpr (Heap.lt_size e'), by simp [q]⟩
    have z : (hidT h H).get? b = none := PySem.W.hideAll_none (trk h H) hm
    rw [z] at e; cases e

/-! ### OpenK's ledger, filled with every new object but one -/
def allNews (g h : Heap) (L : Addr) : List (Addr × Obj) := (List.range h.objs.size).filterMap fun a => if a = L ∨ (g.get? a).isSome = true then none else (h.get? a).map fun o => (a, o)
def rest (g h : Heap) (L d : Addr) : List (Addr × Obj) := (allNews g h L).filter fun p => decide (p.1 ≠ d)
end L2

namespace L2
open PySem PySem.Spec PyProof.Rows

/-- the module's facts, over the base: the heap at the law's entry without what is tracked there -/
structure Mod (K : PySem.W.Frag) (mg : Str → Option Value) (base : Heap) : Prop where
  kin : K.In base
  glob : base.Ns mainGlobals mg
  blt : ∃ mb, base.Ns builtinsNs mb ∧ ∀ x : Str, x ≠ "__name__" → mb x = bootBuiltins x
  nolimit : base.NoLimit

/-- the context: a def's body (or a comprehension's block) running. base: fixed through the whole law; s₀, H₀: the entry; outer: the frames whose slots others may change (a def's callers); stack: all frames that run;
   ex: iterators that were made ahead of the entry and are walked here (a comprehension's); fn: the names whose cells were made at the entry (a def: all; a comprehension's block: its own); calm: not within an except suite; pn: pins that every state bears; xe: what is wanted of an exception that leaves the code -/
structure Cx where
  prog : Program
  w : World
  K : PySem.W.Frag
  mg : Str → Option Value
  base : Heap
  A : Around
  N : List Str
  s_0 : Shared
  H_0 : Hp
  env : Env
  outer : List Env
  stack : List Env
  ex : List Addr
  fn : Str → Bool
  calm : Bool
  pn : List (Addr × Obj)
  xe : Value → Shared → Prop
/-- the callers' frames -/
def frs (l : List Env) : List Addr := l.filterMap (·.frame)
abbrev Cx.fs (X : Cx) : List Addr := frs X.outer

def Vis (sc : Scope) (x : Str) : Prop := sc.names.lookup x = some .local ∨ sc.names.lookup x = some .cell ∨ sc.names.lookup x = some .free
def Loc (sc : Scope) (x : Str) : Prop := sc.names.lookup x = some .local ∨ sc.names.lookup x = some .cell
def Look (env : Env) (h : Heap) (m : Str → Option Value) (x : Str) (u : Value) : Prop :=
  (env.kindOf x = some .local ∧ m x = some u) ∨ ((env.kindOf x = some .cell ∨ env.kindOf x = some .free) ∧ ∃ c, env.cells.lookup x = some c ∧ h.IsCell c (some u))

structure Cx.Ok (X : Cx) : Prop where
  mod : Mod X.K X.mg X.base
  kind : X.env.scope.kind = .function
  glob : X.env.globals = mainGlobals
  blt : X.env.builtins = builtinsNs
  above : X.s_0.heap.objs.size ≤ X.env.locals
  inj : ∀ x y c, X.env.cells.lookup x = some c → X.env.cells.lookup y = some c → x = y
  has : ∀ x, (X.env.kindOf x = some .cell ∨ X.env.kindOf x = some .free) → ∃ c, X.env.cells.lookup x = some c
  cab : ∀ x c, X.fn x = true → X.env.cells.lookup x = some c → X.s_0.heap.objs.size ≤ c
  hd : X.calm = true → X.A.handled = none
  frames : X.A.frames = some X.stack
  stk : X.stack = X.outer ∨ (X.stack = X.env :: X.outer ∧ X.env.frame = some X.env.locals)
  exf : ∀ b ∈ X.ex, b ≠ X.env.locals ∧ ∀ x c, X.env.cells.lookup x = some c → c ≠ b
  bs : ∀ b o, X.base.get? b = some o → X.s_0.heap.get? b = some o ∧ X.H_0 b = none
  bsz : X.base.objs.size ≤ X.s_0.heap.objs.size
  noex : ∀ b o, X.base.get? b = some o → b ∉ X.ex
  exfs : ∀ b ∈ X.ex, b ∉ X.fs
  funs : X.s_0.heap.FunFrames X.base X.outer
  frf : ∀ b ∈ X.fs, X.H_0 b = none

structure Inv (X : Cx) (pins : List (Addr × Obj)) (σ : List (Option V)) (H : Hp) (s : Shared) : Prop where
  ok : X.Ok
  os : s.os = X.s_0.os
  bare : AllBare s.gens
  base : Un X.fs X.ex X.H_0 H X.s_0.heap s.heap
  loc : ∃ m, s.heap.Ns X.env.locals m ∧ ∀ (i : Nat) (x : Str) (v : V), X.N[i]? = some x → σ[i]? = some (some v) → Vis X.env.scope x → ∃ u, RelV v u ∧ Look X.env s.heap m x u
  cell : ∀ x c, X.env.cells.lookup x = some c → ∃ v, s.heap.IsCell c v
  free : H X.env.locals = none
  freeC : ∀ x c, X.env.cells.lookup x = some c → H c = none
  pin : ∀ p ∈ X.pn ++ pins, s.heap.get? p.1 = some p.2 ∧ H p.1 = none ∧ p.1 ≠ X.env.locals ∧ p.1 ∉ X.fs ∧ ∀ v, p.2.data ≠ .cell v
  hok : HOk X.prog X.w H s.heap
  len : σ.length = X.N.length

section
variable {X : Cx} {pins : List (Addr × Obj)} {σ : List (Option V)} {H H' : Hp} {s : Shared} {h' : Heap}

theorem Cx.Ok.nofr (ok : X.Ok) {b : Addr} {o : Obj} (e : X.base.get? b = some o) : b ∉ X.fs := fun hb => by
  have := (ok.funs.mem hb).1
  rw [e] at this; cases this
theorem Inv.bs (I : Inv X pins σ H s) : ∀ b o, X.base.get? b = some o → s.heap.get? b = some o ∧ H b = none := fun b o e =>
  ⟨I.base.keep b o (I.ok.bs b o e).1 (I.ok.bs b o e).2 (I.ok.nofr e) (I.ok.noex b o e), I.base.free b o (I.ok.bs b o e).1 (I.ok.bs b o e).2 (I.ok.noex b o e)⟩
theorem Inv.bk (I : Inv X pins σ H s) : ∀ b o, X.base.get? b = some o → s.heap.get? b = some o := fun b o e => (I.bs b o e).1
theorem Inv.mod (I : Inv X pins σ H s) : Mod X.K X.mg X.base := I.ok.mod
theorem Inv.kIn (I : Inv X pins σ H s) : X.K.In s.heap := I.ok.mod.kin.keeps I.bk
theorem Inv.lt (I : Inv X pins σ H s) : X.env.locals < s.heap.objs.size := let ⟨_, hn, _⟩ := I.loc; hn.lt
theorem Inv.sz (I : Inv X pins σ H s) : X.s_0.heap.objs.size ≤ s.heap.objs.size := Nat.le_trans I.ok.above (Nat.le_of_lt I.lt)
theorem Inv.nofs (I : Inv X pins σ H s) {a : Addr} (h : s.heap.objs.size ≤ a) : a ∉ X.fs := fun hb => by
  obtain ⟨_, o, ho, _⟩ := I.ok.funs.mem hb
  exact absurd (Nat.lt_of_lt_of_le (Heap.lt_size ho) (Nat.le_trans I.sz h)) (Nat.lt_irrefl _)
theorem Inv.cne (I : Inv X pins σ H s) : ∀ x c, X.env.cells.lookup x = some c → c ≠ X.env.locals := fun x c e z => by
  obtain ⟨v, o, ho, hd⟩ := I.cell x c e
  obtain ⟨m, ⟨o', es, ep, ho', hd', _⟩, _⟩ := I.loc
  rw [z, ho'] at ho; cases ho; rw [hd'] at hd; cases hd
theorem Inv.funs (I : Inv X pins σ H s) : s.heap.FunFrames X.base X.outer := by
  have all : ∀ (l : List Env), (∀ b ∈ frs l, b ∈ X.fs) → X.s_0.heap.FunFrames X.base l → s.heap.FunFrames X.base l := by
    intro l
    induction l with
    | nil => intro _ _; trivial
    | cons env r ih =>
      intro hs hl
      obtain ⟨hk, ⟨L, o, hf, hn, ho, hd⟩, hr⟩ := hl
      have hL : L ∈ X.fs := hs L (by unfold frs; rw [List.filterMap_cons, hf]; exact List.mem_cons_self)
      obtain ⟨sl, e⟩ := I.base.slot L o ho (I.ok.frf L hL) hL fun z => I.ok.exfs L z hL
      exact ⟨hk, ⟨L, _, hf, hn, e, hd⟩, ih (fun b hb => hs b (by unfold frs; rw [List.filterMap_cons, hf]; exact List.mem_cons_of_mem _ hb)) hr⟩
  exact all X.outer (fun _ hb => hb) I.ok.funs

/-- the frames that run, for a call -/
theorem Inv.stack (I : Inv X pins σ H s) : s.heap.FunFrames X.base X.stack := by
  rcases I.ok.stk with e | ⟨e, hf⟩
  · rw [e]; exact I.funs
  · rw [e]
    obtain ⟨m, hn, _⟩ := I.loc
    refine .cons (by rw [I.ok.kind]; decide) hf hn ?_ I.funs
    exact Heap.get?_none_of_le (Nat.le_trans I.ok.bsz I.ok.above)
theorem Inv.stkSub (I : Inv X pins σ H s) : ∀ b ∈ frs X.stack, b ∈ X.env.locals :: X.fs := fun b hb => by
  rcases I.ok.stk with e | ⟨e, hf⟩
  · rw [e] at hb; exact List.mem_cons_of_mem _ hb
  · rw [e] at hb
    unfold frs at hb
    rw [List.filterMap_cons, hf] at hb
    exact hb
theorem Inv.stkFree (I : Inv X pins σ H s) : ∀ b ∈ frs X.stack, H b = none := fun b hb => by
  rcases List.mem_cons.mp (I.stkSub b hb) with e | hb
  · rw [e]; exact I.free
  · obtain ⟨_, o, ho, _⟩ := I.ok.funs.mem hb
    exact I.base.free b o ho (I.ok.frf b hb) fun z => I.ok.exfs b z hb

/-- THE STEP: the untracked objects but the frame and the records at ch are kept (the callers' frames up to slots), the frame's map is kept, the new abstract heap is held -/
theorem Inv.step {g' : Array GenState} {t' : Nat} {d' : Drawn} {ch : List Addr} (I : Inv X pins σ H s)
    (hch : ∀ b ∈ ch, (b ∈ X.ex ∨ X.s_0.heap.objs.size ≤ b) ∧ b ≠ X.env.locals ∧ (∀ x c, X.env.cells.lookup x = some c → c ≠ b) ∧ ∀ p ∈ X.pn ++ pins, p.1 ≠ b)
    (keep : ∀ b o, b ≠ X.env.locals → b ∉ X.fs → b ∉ ch → s.heap.get? b = some o → H b = none → h'.get? b = some o)
    (slot : ∀ b o, b ≠ X.env.locals → b ∈ X.fs → b ∉ ch → s.heap.get? b = some o → H b = none → ∃ sl, h'.get? b = some { o with slots := sl }) (free : ∀ b o, b ∉ ch → s.heap.get? b = some o → H b = none → H' b = none)
    (there : ∀ b o, b ∉ ch → s.heap.get? b = some o → ∃ o', h'.get? b = some o')
    (tups : ∀ b xs, H b = some (.tup xs) → H' b = some (.tup xs)) (frzs : ∀ b o u, H b = some (.frz o u) → H' b = some (.frz o u)) (tbls : ∀ b ps, H b = some (.tbl ps) → ∃ more, H' b = some (.tbl (ps ++ more)))
    (ns : ∀ m, s.heap.Ns X.env.locals m → h'.Ns X.env.locals m) (hok : HOk X.prog X.w H' h') (hg : AllBare g') :
    Inv X pins σ H' { s with heap := h', gens := g', drawn := d', toks := t' } := by
  have neL : ∀ b o, X.s_0.heap.get? b = some o → b ≠ X.env.locals := fun b o e => Nat.ne_of_lt (Nat.lt_of_lt_of_le (Heap.lt_size e) I.ok.above)
  have neC : ∀ b o, X.s_0.heap.get? b = some o → b ∉ X.ex → b ∉ ch := fun b o e hx hb => by
    rcases (hch b hb).1 with z | z
    · exact hx z
    · exact absurd (Nat.lt_of_lt_of_le (Heap.lt_size e) z) (Nat.lt_irrefl _)
  have cellK : ∀ x c, X.env.cells.lookup x = some c → ∀ v, s.heap.IsCell c v → h'.IsCell c v := fun x c e v ⟨o, ho, hd⟩ => by
    have nch : c ∉ ch := fun z => (hch c z).2.2.1 x c e rfl
    by_cases hc : c ∈ X.fs
    · obtain ⟨sl, q⟩ := slot c o (I.cne x c e) hc nch ho (I.freeC x c e)
      exact ⟨_, q, hd⟩
    · exact ⟨o, keep c o (I.cne x c e) hc nch ho (I.freeC x c e), hd⟩
  refine ⟨I.ok, I.os, hg, ⟨fun b o e n hb hx => ?_, fun b o e n hb hx => ?_, fun b o e n hx => ?_, fun b o e hx => ?_, fun b xs e => tups b xs (I.base.tups b xs e), fun b o xs e => frzs b o xs (I.base.frzs b o xs e), fun b ps e => ?_⟩, ?_, fun x c e => ?_, ?_, fun x c e => ?_, fun p hp => ?_, hok, I.len⟩
  · exact keep b o (neL b o e) hb (neC b o e hx) (I.base.keep b o e n hb hx) (I.base.free b o e n hx)
  · obtain ⟨sl, e1⟩ := I.base.slot b o e n hb hx
    obtain ⟨sl', e2⟩ := slot b _ (neL b o e) hb (neC b o e hx) e1 (I.base.free b o e n hx)
    exact ⟨sl', e2⟩
  · obtain ⟨o', e1⟩ := I.base.there b o e hx
    exact free b o' (neC b o e hx) e1 (I.base.free b o e n hx)
  · obtain ⟨o', e1⟩ := I.base.there b o e hx
    exact there b o' (neC b o e hx) e1
  · obtain ⟨m1, e1⟩ := I.base.tbls b ps e
    obtain ⟨m2, e2⟩ := tbls b _ e1
    exact ⟨m1 ++ m2, by rw [e2, Array.append_assoc]⟩
  · obtain ⟨m, hn, hl⟩ := I.loc
    refine ⟨m, ns m hn, fun i x v e1 e2 e3 => ?_⟩
    obtain ⟨u, r, l⟩ := hl i x v e1 e2 e3
    refine ⟨u, r, ?_⟩
    rcases l with l | ⟨k, c, e, z⟩
    · exact .inl l
    · exact .inr ⟨k, c, e, cellK x c e _ z⟩
  · obtain ⟨v, z⟩ := I.cell x c e
    exact ⟨v, cellK x c e v z⟩
  · obtain ⟨m, ⟨o, _, _, ho, _⟩, _⟩ := I.loc
    exact free _ o (fun z => (hch _ z).2.1 rfl) ho I.free
  · obtain ⟨v, o, ho, hd⟩ := I.cell x c e
    exact free c o (fun z => (hch c z).2.2.1 x c e rfl) ho (I.freeC x c e)
  · obtain ⟨e, n, ne, nf, d⟩ := I.pin p hp
    have nch : p.1 ∉ ch := fun z => (hch p.1 z).2.2.2 p hp rfl
    exact ⟨keep p.1 p.2 ne nf nch e n, free p.1 p.2 nch e n, ne, nf, d⟩
/-- .. where the frame's own object is kept too -/
theorem Inv.un {t' : Nat} (I : Inv X pins σ H s) (u : Un X.fs [] H H' s.heap h') (hok : HOk X.prog X.w H' h') : Inv X pins σ H' { s with heap := h', toks := t' } := by
  obtain ⟨m, ⟨o, es, ep, ho, r⟩, _⟩ := id I.loc
  obtain ⟨sl, hL⟩ := u.any ho I.free (by simp)
  exact I.step (g' := s.gens) (d' := s.drawn) (ch := []) (fun _ z => nomatch z) (fun b o _ hb _ e n => u.keep b o e n hb (by simp)) (fun b o _ hb _ e n => u.slot b o e n hb (by simp)) (fun b o _ e n => u.free b o e n (by simp)) (fun b o _ e => u.there b o e (by simp)) u.tups u.frzs u.tbls (fun m' hm => by
    obtain ⟨o', es', ep', ho', r'⟩ := hm
    rw [ho] at ho'; cases ho'
    exact ⟨_, es', ep', hL, r'⟩) hok I.bare
/-- behind a call (or a comprehension's block): the slots of this frame may have changed too, the records at ch may have turned -/
theorem Inv.call {g' : Array GenState} {t' : Nat} {d' : Drawn} {ch : List Addr} (I : Inv X pins σ H s) (u : Un (frs X.stack) ch H H' s.heap h') (hok : HOk X.prog X.w H' h') (hg : AllBare g')
    (hch : ∀ b ∈ ch, (b ∈ X.ex ∨ X.s_0.heap.objs.size ≤ b) ∧ b ≠ X.env.locals ∧ (∀ x c, X.env.cells.lookup x = some c → c ≠ b) ∧ ∀ p ∈ X.pn ++ pins, p.1 ≠ b) :
    Inv X pins σ H' { s with heap := h', gens := g', drawn := d', toks := t' } := by
  obtain ⟨m, ⟨o, es, ep, ho, r⟩, _⟩ := id I.loc
  obtain ⟨sl, hL⟩ := u.any ho I.free fun z => (hch _ z).2.1 rfl
  exact I.step (ch := ch) hch (fun b o hL hb hc e n => u.keep b o e n (fun z => (List.mem_cons.mp (I.stkSub b z)).elim hL hb) hc) (fun b o _ _ hc e n => u.any e n hc) (fun b o hc e n => u.free b o e n hc) (fun b o hc e => u.there b o e hc) u.tups u.frzs u.tbls (fun m' hm => by
    obtain ⟨o', es', ep', ho', r'⟩ := hm
    rw [ho] at ho'; cases ho'
    exact ⟨_, es', ep', hL, r'⟩) hok hg
/-- an untracked record of ours (an iterator) has turned -/
theorem Inv.turned {t' : Nat} {it : Addr} (I : Inv X pins σ H s) (k : ∀ b o, b ≠ it → s.heap.get? b = some o → h'.get? b = some o) (hn : H it = none) (hL : it ≠ X.env.locals)
    (h1 : it ∈ X.ex ∨ X.s_0.heap.objs.size ≤ it) (h2 : ∀ x c, X.env.cells.lookup x = some c → c ≠ it) (h3 : ∀ p ∈ X.pn ++ pins, p.1 ≠ it) : Inv X pins σ H { s with heap := h', toks := t' } := by
  have nit : ∀ b u, H b = some u → b ≠ it := fun b u e z => by rw [z, hn] at e; cases e
  refine I.step (g' := s.gens) (d' := s.drawn) (ch := [it]) (fun b hb => ?_) (fun b o _ _ hc e _ => k b o (fun z => hc (by simp [z])) e) (fun b o _ _ hc e _ => ⟨o.slots, k b o (fun z => hc (by simp [z])) e⟩) (fun _ _ _ _ n => n)
    (fun b o hc e => ⟨o, k b o (fun z => hc (by simp [z])) e⟩) (fun _ _ e => e) (fun _ _ _ e => e) (fun b ps e => ⟨#[], by rw [e]; simp⟩) (fun m hm => ?_) (fun b u e => ?_) I.bare
  · have e : b = it := by simpa using hb
    subst e
    exact ⟨h1, hL, h2, h3⟩
  · obtain ⟨o, es, ep, ho, r⟩ := hm
    exact ⟨o, es, ep, k _ o (Ne.symm hL) ho, r⟩
  · refine (I.hok b u e).stay (fun c v hc q => k c v ?_ q) (fun _ q => q) fun _ _ q => q
    rcases hc with z | z
    · rw [z]; exact nit b u e
    · exact nit c _ z
theorem Inv.tok (I : Inv X pins σ H s) (t : Nat) : Inv X pins σ H { s with toks := t } := I.un (h' := s.heap) (t' := t) Un.refl I.hok
/-- all objects kept -/
theorem Inv.kept {t' : Nat} (I : Inv X pins σ H s) (k : ∀ b u, s.heap.get? b = some u → h'.get? b = some u) : Inv X pins σ H { s with heap := h', toks := t' } := I.un (Un.kept k) (I.hok.kept k)
/-- a new object laid and tracked -/
theorem Inv.laid {a : Addr} {o : HO} {t' : Nat} (I : Inv X pins σ H s) (k : ∀ b u, s.heap.get? b = some u → h'.get? b = some u) (hp : s.heap.objs.size ≤ a) (new : ObjOk X.prog X.w (upd H a o) h' a o) :
    Inv X pins σ (upd H a o) { s with heap := h', toks := t' } := I.un (Un.laid k hp (I.hok.fresh hp)) (I.hok.laid k hp new)
/-- an object written -/
theorem Inv.write {x e : Addr} {o : HO} {t' : Nat} (I : Inv X pins σ H s) (mu : Mut (H x)) (he : e = x ∨ H e = some (.own x)) (k : ∀ b u, b ≠ e → s.heap.get? b = some u → h'.get? b = some u) (heo : ∃ u, h'.get? e = some u)
    (new : ObjOk X.prog X.w (upd H x o) h' x o) : Inv X pins σ (upd H x o) { s with heap := h', toks := t' } := I.un (Un.write mu he k heo) (I.hok.write mu he k heo new)
/-- forgetting slots, pins -/
theorem Inv.weak {σ' : List (Option V)} (I : Inv X pins σ H s) (hl : σ'.length = σ.length) (w : ∀ (i : Nat) v, σ'[i]? = some (some v) → σ[i]? = some (some v)) : Inv X pins σ' H s :=
  ⟨I.ok, I.os, I.bare, I.base, let ⟨m, hn, hl'⟩ := I.loc; ⟨m, hn, fun i x v e1 e2 e3 => hl' i x v e1 (w i v e2) e3⟩, I.cell, I.free, I.freeC, I.pin, I.hok, hl.trans I.len⟩
theorem Inv.pins_of {pins' : List (Addr × Obj)} (I : Inv X pins σ H s) (h : ∀ p ∈ pins', s.heap.get? p.1 = some p.2 ∧ H p.1 = none ∧ p.1 ≠ X.env.locals ∧ p.1 ∉ X.fs ∧ ∀ v, p.2.data ≠ .cell v) : Inv X pins' σ H s :=
  ⟨I.ok, I.os, I.bare, I.base, I.loc, I.cell, I.free, I.freeC, fun p hp => (List.mem_append.mp hp).elim (fun z => I.pin p (List.mem_append_left _ z)) (h p), I.hok, I.len⟩

theorem nodup_ix {N : List Str} (hN : N.Nodup) {i j : Nat} {x : Str} (a : N[i]? = some x) (b : N[j]? = some x) : i = j := by
  obtain ⟨h1, e1⟩ := List.getElem?_eq_some_iff.mp a
  obtain ⟨h2, e2⟩ := List.getElem?_eq_some_iff.mp b
  exact (List.getElem_inj hN).mp (e1.trans e2.symm)

/-- a name is stored; what changed -/
theorem store_ok2 {M : Model} {A : Around} {E : Value → Shared → Prop} {i : Nat} {x : Str} {v : V} {u : Value} {Q : Unit → Shared → Prop} (I : Inv X pins σ H s) (hN : X.N.Nodup) (hi : X.N[i]? = some x) (hx : Loc X.env.scope x) (r : RelV v u)
    (h : ∀ s', Inv X pins (σ.set i (some v)) H s' → (∃ a, Heap.SameBut a s.heap s'.heap ∧ (a = X.env.locals ∨ X.env.cells.lookup x = some a)) → Q () s') (hf : X.fn x = true ∨ X.env.scope.names.lookup x = some .local := by first | exact .inl rfl | exact .inr rfl | assumption) : wpAny M A (storeName X.env x u) Q E s := by
  obtain ⟨m, hn, hl⟩ := id I.loc
  have hcls : (X.env.scope.kind == .class || (X.env.scope.kind == .module && X.env.locals != X.env.globals)) = false := by rw [I.ok.kind]; rfl
  have hiσ : i < σ.length := by rw [I.len]; exact (List.getElem?_eq_some_iff.mp hi).1
  have cne := I.cne
  have tracked : ∀ {a : Addr} {h' : Heap}, (∃ o, s.heap.get? a = some o ∧ H a = none) → Heap.SameBut a s.heap h' → HOk X.prog X.w H h' := fun {a h'} ha hs b ob e => by
    obtain ⟨_, _, hfree⟩ := ha
    refine (I.hok b ob e).stay (fun c w' hc q => (hs.2 c ?_).trans q) (fun _ q => q) fun _ _ q => q
    rintro rfl
    rcases hc with rfl | hc
    · rw [hfree] at e; cases e
    · rw [hfree] at hc; cases hc
  rcases hx with hk | hk
  · refine wpAny_storeName_local hk hn (fun h' hn' hs => ?_) hcls
    obtain ⟨oL, _, _, hoL, _⟩ := id hn
    refine h _ ⟨I.ok, I.os, I.bare, ⟨fun b o e n hb hx => ?_, fun b o e n hb hx => ?_, I.base.free, fun b o e hx => ?_, I.base.tups, I.base.frzs, I.base.tbls⟩, ⟨_, hn', fun j y v' e1 e2 e3 => ?_⟩, fun y c e => ?_, I.free, I.freeC, fun p hp => ?_, tracked ⟨oL, hoL, I.free⟩ hs, by simpa using I.len⟩ ⟨_, hs, .inl rfl⟩
    · exact (hs.2 b (Nat.ne_of_lt (Nat.lt_of_lt_of_le (Heap.lt_size e) I.ok.above))).trans (I.base.keep b o e n hb hx)
    · obtain ⟨sl, e1⟩ := I.base.slot b o e n hb hx
      exact ⟨sl, (hs.2 b (Nat.ne_of_lt (Nat.lt_of_lt_of_le (Heap.lt_size e) I.ok.above))).trans e1⟩
    · obtain ⟨o', e1⟩ := I.base.there b o e hx
      exact ⟨o', (hs.2 b (Nat.ne_of_lt (Nat.lt_of_lt_of_le (Heap.lt_size e) I.ok.above))).trans e1⟩
    · by_cases hj : j = i
      · subst hj
        rw [hi] at e1; cases e1
        rw [List.getElem?_set_self hiσ] at e2
        cases e2
        exact ⟨u, r, .inl ⟨hk, by simp⟩⟩
      · rw [List.getElem?_set_ne (Ne.symm hj)] at e2
        obtain ⟨u', r', q⟩ := hl j y v' e1 e2 e3
        refine ⟨u', r', ?_⟩
        rcases q with ⟨k, e⟩ | ⟨k, c, e, z⟩
        · refine .inl ⟨k, ?_⟩
          have : y ≠ x := fun e => hj (nodup_ix hN e1 (e ▸ hi))
          simp [this, e]
        · exact .inr ⟨k, c, e, z.sameBut hs (cne y c e)⟩
    · obtain ⟨w', z⟩ := I.cell y c e
      exact ⟨w', z.sameBut hs (cne y c e)⟩
    · obtain ⟨e, n, ne, nf, d⟩ := I.pin p hp
      exact ⟨(hs.2 p.1 ne).trans e, n, ne, nf, d⟩
  · have hfn : X.fn x = true := by
      rcases hf with z | z
      · exact z
      · rw [z] at hk; cases hk
    obtain ⟨c, hc⟩ := I.ok.has x (.inl hk)
    obtain ⟨w', z⟩ := I.cell x c hc
    refine wpAny_storeName_cell I.ok.kind hk hc z (fun h' hc' hs => ?_)
    obtain ⟨oc, hoc, hocd⟩ := id z
    refine h { s with heap := h' } ⟨I.ok, I.os, I.bare, ⟨fun b o e n hb hx => ?_, fun b o e n hb hx => ?_, I.base.free, fun b o e hx => ?_, I.base.tups, I.base.frzs, I.base.tbls⟩, ⟨m, hn.sameBut hs (Ne.symm (cne x c hc)), fun j y v' e1 e2 e3 => ?_⟩, fun y c' e => ?_, I.free, I.freeC, fun p hp => ?_, tracked ⟨oc, hoc, I.freeC x c hc⟩ hs, by simpa using I.len⟩ ⟨c, hs, .inr hc⟩
    · exact (hs.2 b (Nat.ne_of_lt (Nat.lt_of_lt_of_le (Heap.lt_size e) (I.ok.cab x c hfn hc)))).trans (I.base.keep b o e n hb hx)
    · obtain ⟨sl, e1⟩ := I.base.slot b o e n hb hx
      exact ⟨sl, (hs.2 b (Nat.ne_of_lt (Nat.lt_of_lt_of_le (Heap.lt_size e) (I.ok.cab x c hfn hc)))).trans e1⟩
    · obtain ⟨o', e1⟩ := I.base.there b o e hx
      exact ⟨o', (hs.2 b (Nat.ne_of_lt (Nat.lt_of_lt_of_le (Heap.lt_size e) (I.ok.cab x c hfn hc)))).trans e1⟩
    · by_cases hj : j = i
      · subst hj
        rw [hi] at e1; cases e1
        rw [List.getElem?_set_self hiσ] at e2
        cases e2
        exact ⟨u, r, .inr ⟨.inl hk, c, hc, hc'⟩⟩
      · rw [List.getElem?_set_ne (Ne.symm hj)] at e2
        obtain ⟨u', r', q⟩ := hl j y v' e1 e2 e3
        refine ⟨u', r', ?_⟩
        rcases q with q | ⟨k, c', e, z'⟩
        · exact .inl q
        · refine .inr ⟨k, c', e, z'.sameBut hs ?_⟩
          rintro rfl
          exact hj (nodup_ix hN e1 (I.ok.inj _ _ _ e hc ▸ hi))
    · by_cases hcc : c' = c
      · subst hcc; exact ⟨_, hc'⟩
      · obtain ⟨w2, z2⟩ := I.cell y c' e
        exact ⟨w2, z2.sameBut hs hcc⟩
    · obtain ⟨e, n, ne, nf, d⟩ := I.pin p hp
      refine ⟨(hs.2 p.1 ?_).trans e, n, ne, nf, d⟩
      intro q
      rw [q, hoc] at e
      have q' : oc = p.2 := Option.some.inj e
      exact d w' (by rw [← q']; exact hocd)
theorem store_ok {M : Model} {A : Around} {E : Value → Shared → Prop} {i : Nat} {x : Str} {v : V} {u : Value} {Q : Unit → Shared → Prop} (I : Inv X pins σ H s) (hN : X.N.Nodup) (hi : X.N[i]? = some x) (hx : Loc X.env.scope x) (r : RelV v u)
    (h : ∀ s', Inv X pins (σ.set i (some v)) H s' → Q () s') (hf : X.fn x = true ∨ X.env.scope.names.lookup x = some .local := by first | exact .inl rfl | exact .inr rfl | assumption) : wpAny M A (storeName X.env x u) Q E s :=
  store_ok2 I hN hi hx r (fun s' I' _ => h s' I') hf
/-- behind a call or a block, the state as it is -/
theorem Inv.call' {s' : Shared} {ch : List Addr} (I : Inv X pins σ H s) (ho : s'.os = s.os) (u : Un (frs X.stack) ch H H' s.heap s'.heap) (hok : HOk X.prog X.w H' s'.heap) (hg : AllBare s'.gens)
    (hch : ∀ b ∈ ch, (b ∈ X.ex ∨ X.s_0.heap.objs.size ≤ b) ∧ b ≠ X.env.locals ∧ (∀ x c, X.env.cells.lookup x = some c → c ≠ b) ∧ ∀ p ∈ X.pn ++ pins, p.1 ≠ b) : Inv X pins σ H' s' := by
  obtain ⟨h', g', d', t', o'⟩ := s'
  have e : o' = s.os := ho
  subst e
  exact I.call (g' := g') (t' := t') (d' := d') u hok hg hch
end

/-! ### the judgements -/
/-- an exception: its class, its own dict's address (where it has one), the abstract heap behind it -/
abbrev XK := Value → Option Addr → Hp → Prop
abbrev St := List (Option V)
abbrev VK := V → Hp → Prop
/-- an expression's reading; a test's; an argument list's -/
abbrev TE := St → Hp → VK → Prop
abbrev TT := St → Hp → (Bool → Hp → Prop) → Prop
abbrev TA := St → Hp → (List V → Hp → Prop) → Prop
/-- what is wanted behind a statement -/
structure Ends where
  nx : St → Hp → Prop
  rt : VK
  bk : St → Hp → Prop := fun _ _ => False
  ct : St → Hp → Prop := fun _ _ => False
abbrev TS := Ends → St → Hp → Prop

def EP (X : Cx) (pins : List (Addr × Obj)) (σ : St) (Q : VK) (u : Value) (s' : Shared) : Prop := ∃ v H', Inv X pins σ H' s' ∧ RelV v u ∧ Q v H'
def TP (X : Cx) (pins : List (Addr × Obj)) (σ : St) (Q : Bool → Hp → Prop) (b : Bool) (s' : Shared) : Prop := ∃ H', Inv X pins σ H' s' ∧ Q b H'
def AP (X : Cx) (pins : List (Addr × Obj)) (σ : St) (Q : List V → Hp → Prop) (us : List Value) (s' : Shared) : Prop := ∃ vs H', Inv X pins σ H' s' ∧ Vals vs us ∧ Q vs H'
def SP (X : Cx) (pins : List (Addr × Obj)) (D : Ends) (f : Flow) (s' : Shared) : Prop :=
  match f with
  | .next => ∃ σ' H', Inv X pins σ' H' s' ∧ D.nx σ' H'
  | .brk => ∃ σ' H', Inv X pins σ' H' s' ∧ D.bk σ' H'
  | .cont => ∃ σ' H', Inv X pins σ' H' s' ∧ D.ct σ' H'
  | .ret u => ∃ v σ' H', Inv X pins σ' H' s' ∧ RelV v u ∧ D.rt v H'

def PE (X : Cx) (e : Expr) (t : TE) : Prop :=
  ∀ (pins : List (Addr × Obj)) (s : Shared) (σ : St) (H : Hp) (Q : VK), Inv X pins σ H s → t σ H Q → wpAny (model X.prog X.w) X.A (eval e X.env) (EP X pins σ Q) X.xe s
def PT (X : Cx) (e : Expr) (t : TT) : Prop :=
  ∀ (pins : List (Addr × Obj)) (s : Shared) (σ : St) (H : Hp) (Q : Bool → Hp → Prop), Inv X pins σ H s → t σ H Q → wpAny (model X.prog X.w) X.A (isTrue e X.env (eval e X.env)) (TP X pins σ Q) X.xe s
/-- a test whatever its 'whole' is (and, or) -/
def PW (X : Cx) (e : Expr) (t : TT) : Prop :=
  ∀ (whole : Sem Value) (pins : List (Addr × Obj)) (s : Shared) (σ : St) (H : Hp) (Q : Bool → Hp → Prop), Inv X pins σ H s → t σ H Q → wpAny (model X.prog X.w) X.A (isTrue e X.env whole) (TP X pins σ Q) X.xe s
theorem PW.pt {X : Cx} {e : Expr} {t : TT} (h : PW X e t) : PT X e t := h _
/-- an argument list (no star), from the left -/
def PA (X : Cx) (es : List Expr) (t : TA) : Prop :=
  ∀ (pos : Pos) (pins : List (Addr × Obj)) (s : Shared) (σ : St) (H : Hp) (Q : List V → Hp → Prop), Inv X pins σ H s → t σ H Q → wpAny (model X.prog X.w) X.A (spliced (backTo pos (starEach es X.env))) (AP X pins σ Q) X.xe s
def PS (X : Cx) (st : Stmt) (t : TS) : Prop :=
  ∀ (pins : List (Addr × Obj)) (s : Shared) (σ : St) (H : Hp) (D : Ends), Inv X pins σ H s → t D σ H → wpAny (model X.prog X.w) X.A (exec st X.env) (SP X pins D) X.xe s
def PSs (X : Cx) (st : List Stmt) (t : TS) : Prop :=
  ∀ (pins : List (Addr × Obj)) (s : Shared) (σ : St) (H : Hp) (D : Ends), Inv X pins σ H s → t D σ H → wpAny (model X.prog X.w) X.A (execs st X.env) (SP X pins D) X.xe s
/-- weaken the end -/
theorem thn {α : Type} {t : Sem α} {Q Q' : α → Shared → Prop} {M : Model} {A : Around} {E : Value → Shared → Prop} {s : Shared} (h : wpAny M A t Q E s) (hQ : ∀ a s, Q a s → Q' a s) : wpAny M A t Q' E s := wpAny_mono h hQ fun _ _ x => x
end L2

namespace L2
open PySem PySem.Spec PyProof.Rows
section
variable {X : Cx}


/-! ### names and constants -/
def tVar (i : Nat) : TE := fun σ H Q => ∃ v, σ[i]? = some (some v) ∧ Q v H
def tC (v : V) : TE := fun _ H Q => Q v H
theorem pe_var {i : Nat} {x : Str} {pos : Pos} (hN : X.N[i]? = some x) (hv : Vis X.env.scope x) (hd : (x == ("__debug__" : Str)) = false := by decide) (hcd : (x == ("__classdict__" : Str)) = false := by decide) : PE X (.Name x pos) (tVar i) := by
  intro pins s σ H Q I h
  obtain ⟨v, e, h⟩ := h
  obtain ⟨m, hn, hl⟩ := I.loc
  obtain ⟨u, r, l⟩ := hl i x v hN e hv
  have fin : EP X pins σ Q u s := ⟨v, H, I, r, h⟩
  rcases l with ⟨hk, hm⟩ | ⟨hk, c, hc, hcell⟩
  · exact wpAny_Name (wpAny_loadName_local I.ok.kind hk hn hm fin) hd
  · rcases hk with hk | hk
    · exact wpAny_Name (wpAny_loadName_cell I.ok.kind hk hc hcell fin) hd
    · exact wpAny_Name (wpAny_loadName_free I.ok.kind hk hc hcell fin hcd) hd
theorem pe_int {i j pos} : PE X (.Constant (.int i) j pos) (tC (.int i)) := fun _ _ _ H _ I h => wpAny_Constant_int ⟨.int i, H, I.tok _, ⟨_, rfl⟩, h⟩
theorem pe_non {j pos} : PE X (.Constant .none j pos) (tC .non) := fun _ _ _ H _ I h => Constant_none ⟨.non, H, I, rfl, h⟩

/-- a global name of the def -/
def Gl (X : Cx) (x : Str) : Prop := X.env.kindOf x = some .globalImplicit
theorem ld_glob {E : Value → Shared → Prop} {pins : List (Addr × Obj)} {s : Shared} {σ : St} {H : Hp} {x : Str} {u : Value} {pos : Pos} {Q : Value → Shared → Prop} (I : Inv X pins σ H s) (hg : Gl X x) (hm : X.mg x = some u) (h : Q u s)
    (hd : (x == ("__debug__" : Str)) = false := by decide) : wpAny (model X.prog X.w) X.A (eval (.Name x pos) X.env) Q E s :=
  Calls.Name_function_global I.ok.kind hg (Calls.loadGlobal_global (by rw [I.ok.glob]; exact I.mod.glob.keeps I.bk) hm h) hd
theorem ld_blt {E : Value → Shared → Prop} {pins : List (Addr × Obj)} {s : Shared} {σ : St} {H : Hp} {x : Str} {u : Value} {pos : Pos} {Q : Value → Shared → Prop} (I : Inv X pins σ H s) (hg : Gl X x) (hm : X.mg x = none) (hv : bootBuiltins x = some u) (h : Q u s)
    (hn : x ≠ "__name__" := by decide) (hd : (x == ("__debug__" : Str)) = false := by decide) : wpAny (model X.prog X.w) X.A (eval (.Name x pos) X.env) Q E s := by
  obtain ⟨mb, h1, h2⟩ := I.mod.blt
  exact Calls.Name_function_global I.ok.kind hg (Calls.loadGlobal_builtin (by rw [I.ok.glob]; exact I.mod.glob.keeps I.bk) hm (by rw [I.ok.blt]; exact h1.keeps I.bk) ((h2 x hn).trans hv) h) hd
/-- a module's constant, a class, a function, as a value -/
theorem pe_glob {x : Str} {v : V} {u : Value} {pos : Pos} (hg : Gl X x) (hm : X.mg x = some u) (r : RelV v u) (hd : (x == ("__debug__" : Str)) = false := by decide) : PE X (.Name x pos) (tC v) :=
  fun _ _ _ H _ I h => ld_glob I hg hm ⟨v, H, I, r, h⟩ hd

/-! ### arithmetic -/
variable {a b : Expr} {ta tb : TE} {pos : Pos}

/-! ### comparisons -/
/-- a comparison as a value, as a test -/
def tB (t : TE) : TT := fun σ H Q => t σ H fun x H1 => ∃ c, x = .bl c ∧ Q c H1
/-- an expression whose value is a bool, as a test -/
theorem pt_val {e : Expr} {t : TE} (h : PE X e t) (he : ∀ whole, isTrue e X.env whole = (do let v ← whole; standAt e.pos; holding [v] (truthy v)) := by intro _; rfl) : PT X e (tB t) := by
  intro pins s σ H Q I hw
  refine isTrue_plain (thn (h pins s σ H _ I hw) fun v s1 ⟨x, H1, I1, r1, q1⟩ => ?_) (he _)
  obtain ⟨d, rfl, q⟩ := q1
  cases r1
  exact wpAny_truthy_bool ⟨H1, I1, q⟩

/-! ### and, or, not -/
variable {tA tB' : TT} {rest : List Expr}
def tAnd (t u : TT) : TT := fun σ H Q => t σ H fun c H1 => if c = true then u σ H1 Q else Q false H1
def tOr (t u : TT) : TT := fun σ H Q => t σ H fun c H1 => if c = true then Q true H1 else u σ H1 Q
def tNot (t : TT) : TT := fun σ H Q => t σ H fun c H1 => Q (!c) H1
theorem pw_or1 (ha : PT X a tA) : PW X (.BoolOp .Or [a] pos) tA := by
  intro wh pins s σ H Q I h
  refine isTrue_or (thn (ha pins s σ H Q I h) fun c s1 e => ?_)
  cases c with
  | false => exact isTrue_or_nil e
  | true => exact e
theorem pw_or (ha : PT X a tA) (hb : PW X (.BoolOp .Or (b :: rest) pos) tB') : PW X (.BoolOp .Or (a :: b :: rest) pos) (tOr tA tB') := by
  intro wh pins s σ H Q I h
  refine isTrue_or (thn (ha pins s σ H _ I h) fun c s1 ⟨H1, I1, q1⟩ => ?_)
  cases c with
  | true => exact ⟨H1, I1, q1⟩
  | false => exact hb wh pins s1 σ H1 Q I1 q1
/-- .. as values (bools) -/
def tAndV (ta tb : TE) : TE := fun σ H Q => ta σ H fun x H1 => ∃ c, x = .bl c ∧ if c = true then tb σ H1 Q else Q (.bl false) H1
def tOrV (ta tb : TE) : TE := fun σ H Q => ta σ H fun x H1 => ∃ c, x = .bl c ∧ if c = true then Q (.bl true) H1 else tb σ H1 Q
def tNotV (ta : TE) : TE := fun σ H Q => ta σ H fun x H1 => ∃ c, x = .bl c ∧ Q (.bl (!c)) H1
/-- a if t else b -/
def tIf (t : TT) (ta tb : TE) : TE := fun σ H Q => t σ H fun c H1 => if c = true then ta σ H1 Q else tb σ H1 Q
end
end L2

namespace L2
open PySem PySem.Spec PyProof.Rows

/-! ### a list, a tuple that is read: tracked, frozen, or an object of the module -/
def SqL (K : PySem.W.Frag) (H : Hp) (a : Addr) (xs : List V) : Prop :=
  Rd H a (.lst xs) ∨
    ∃ (o : Obj) (its : Array Value) (n : Nat), K.lookup a = some o ∧ o.cls = .type "list" ∧ o.dict = none ∧ o.data = .seq its n ∧ its.size ≤ sizeLine ∧ Vals xs its.toList
def SqT (K : PySem.W.Frag) (H : Hp) (a : Addr) (xs : List V) : Prop :=
  Rd H a (.tup xs) ∨
    ∃ (o : Obj) (its : Array Value) (n : Nat), K.lookup a = some o ∧ o.cls = .type "tuple" ∧ o.data = .seq its n ∧ its.size ≤ sizeLine ∧ Vals xs its.toList
def absV : Value → Option V
  | .none => some .non
  | .bool b => some (.bl b)
  | .int i _ => some (.int i)
  | .str x _ => some (.str x)
  | .bytes b _ => some (.byt b)
  | .float b _ => some (.flt b)
  | .ref a => some (.ref a)
  | .type n => some (.ty n)
  | _ => none
theorem RelV.abs {x : V} {u : Value} (r : RelV x u) : absV u = some x := by
  cases x with
  | non => cases r; rfl
  | bl _ => cases r; rfl
  | int _ => obtain ⟨t, rfl⟩ := r; rfl
  | str _ => obtain ⟨t, rfl⟩ := r; rfl
  | byt _ => obtain ⟨t, rfl⟩ := r; rfl
  | flt _ => obtain ⟨t, rfl⟩ := r; rfl
  | ref _ => cases r; rfl
  | ty _ => cases r; rfl
theorem RelV.inj {x y : V} {u : Value} (r : RelV x u) (q : RelV y u) : x = y := Option.some.inj (r.abs.symm.trans q.abs)
theorem Vals.inj : ∀ {xs ys : List V} {us : List Value}, Vals xs us → Vals ys us → xs = ys
  | _, _, _, .nil, .nil => rfl
  | _, _, _, .cons r t, .cons r' t' => by rw [r.inj r', Vals.inj t t']
section
variable {X : Cx} {pins : List (Addr × Obj)} {σ : St} {H : Hp} {s : Shared} {a : Addr} {xs ys : List V}
theorem SqL.of {K : PySem.W.Frag} (h : H a = some (.lst xs)) : SqL K H a xs := .inl (.inl h)
theorem SqT.of {K : PySem.W.Frag} (h : H a = some (.tup xs)) : SqT K H a xs := .inl (.inl h)
theorem Inv.list (I : Inv X pins σ H s) (h : SqL X.K H a xs) : ∃ its : List Value, Vals xs its ∧ PlainL s.heap a its.toArray ∧ xs.length ≤ sizeLine := by
  rcases h with h | ⟨o, its, n, hk, hc, hd, hs, hz, r⟩
  · obtain ⟨z, its, n, r, e⟩ := h.ok I.hok
    exact ⟨its, r, ⟨_, n, e, rfl, rfl, rfl⟩, z⟩
  · refine ⟨its.toList, r, ⟨o, n, I.kIn a o hk, hc, hd, by simpa using hs⟩, ?_⟩
    have e := r.length
    simp only [Array.length_toList] at e
    omega
theorem Inv.tuple (I : Inv X pins σ H s) (h : SqT X.K H a xs) : ∃ its : List Value, Vals xs its ∧ IsTup s.heap a its.toArray ∧ xs.length ≤ sizeLine := by
  rcases h with h | ⟨o, its, n, hk, hc, hs, hz, r⟩
  · obtain ⟨z, its, r, p⟩ := h.ok I.hok
    exact ⟨its, r, p, z⟩
  · refine ⟨its.toList, r, ⟨o, I.kIn a o hk, hc, n, by simpa using hs⟩, ?_⟩
    have e := r.length
    simp only [Array.length_toList] at e
    omega
theorem Inv.list_inj (I : Inv X pins σ H s) (h : SqL X.K H a xs) (h' : SqL X.K H a ys) : xs = ys := by
  obtain ⟨its, r, ⟨o, n, e, _, _, d⟩, _⟩ := I.list h
  obtain ⟨its', r', ⟨o', n', e', _, _, d'⟩, _⟩ := I.list h'
  rw [e] at e'; cases e'
  rw [d] at d'
  injection d' with d1 _
  have : its = its' := by simpa using congrArg Array.toList d1
  subst this
  exact r.inj r'
theorem Inv.tuple_inj (I : Inv X pins σ H s) (h : SqT X.K H a xs) (h' : SqT X.K H a ys) : xs = ys := by
  obtain ⟨its, r, ⟨o, e, _, n, d⟩, _⟩ := I.tuple h
  obtain ⟨its', r', ⟨o', e', _, n', d'⟩, _⟩ := I.tuple h'
  rw [e] at e'; cases e'
  rw [d] at d'
  injection d' with d1 _
  have : its = its' := by simpa using congrArg Array.toList d1
  subst this
  exact r.inj r'
end

/-! ### another wish about exceptions -/
abbrev Cx.wish (X : Cx) (E : Value → Shared → Prop) : Cx := { X with xe := E }
/-- no exception leaves -/
abbrev Cx.nox (X : Cx) : Cx := X.wish fun _ _ => False
theorem Cx.Ok.wish {X : Cx} (ok : X.Ok) (E : Value → Shared → Prop) : (X.wish E).Ok :=
  ⟨ok.mod, ok.kind, ok.glob, ok.blt, ok.above, ok.inj, ok.has, ok.cab, ok.hd, ok.frames, ok.stk, ok.exf, ok.bs, ok.bsz, ok.noex, ok.exfs, ok.funs, ok.frf⟩
theorem Cx.Ok.unwish {X : Cx} {E : Value → Shared → Prop} (ok : (X.wish E).Ok) : X.Ok :=
  ⟨ok.mod, ok.kind, ok.glob, ok.blt, ok.above, ok.inj, ok.has, ok.cab, ok.hd, ok.frames, ok.stk, ok.exf, ok.bs, ok.bsz, ok.noex, ok.exfs, ok.funs, ok.frf⟩
section
variable {X : Cx} {pins : List (Addr × Obj)} {σ : St} {H : Hp} {s : Shared} {E : Value → Shared → Prop}
theorem Inv.wish (I : Inv X pins σ H s) (E : Value → Shared → Prop) : Inv (X.wish E) pins σ H s := ⟨I.ok.wish E, I.os, I.bare, I.base, I.loc, I.cell, I.free, I.freeC, I.pin, I.hok, I.len⟩
theorem Inv.unwish (I : Inv (X.wish E) pins σ H s) : Inv X pins σ H s := ⟨I.ok.unwish, I.os, I.bare, I.base, I.loc, I.cell, I.free, I.freeC, I.pin, I.hok, I.len⟩
theorem SP.unwish {D : Ends} {f : Flow} {s' : Shared} (h : SP (X.wish E) pins D f s') : SP X pins D f s' := by
  cases f with
  | next => obtain ⟨σ', H', I, q⟩ := h; exact ⟨σ', H', I.unwish, q⟩
  | brk => obtain ⟨σ', H', I, q⟩ := h; exact ⟨σ', H', I.unwish, q⟩
  | cont => obtain ⟨σ', H', I, q⟩ := h; exact ⟨σ', H', I.unwish, q⟩
  | ret u => obtain ⟨v, σ', H', I, r, q⟩ := h; exact ⟨v, σ', H', I.unwish, r, q⟩
theorem PSs.nox {st : List Stmt} {t : TS} (h : PSs X.nox st t) : PSs X st t := fun pins s σ H D I hw =>
  wpAny_mono (h pins s σ H D (I.wish _) hw) (fun _ _ q => q.unwish) fun _ _ z => False.elim z
end

/-! ### blocks and small statements -/
section
variable {X : Cx} {st : Stmt} {rest : List Stmt} {t u : TS} {e : Expr} {te : TE} {pos : Pos}
def tNext : TS := fun D σ H => D.nx σ H
def tSeq (t u : TS) : TS := fun D σ H => t { D with nx := u D } σ H
theorem pss_nil : PSs X [] tNext := fun _ _ σ H _ I h => wpAny_execs_nil ⟨σ, H, I, h⟩
theorem pss_cons (h1 : PS X st t) (h2 : PSs X rest u) : PSs X (st :: rest) (tSeq t u) := by
  intro pins s σ H D I h
  refine wpAny_execs_cons (thn (h1 pins s σ H { D with nx := u D } I h) fun f s1 q => ?_)
  cases f with
  | next =>
    obtain ⟨σ', H', I', q⟩ := q
    exact h2 pins s1 σ' H' D I' q
  | ret v => exact q
  | brk => exact q
  | cont => exact q
theorem pss_one (h1 : PS X st t) : PSs X [st] t := by
  intro pins s σ H D I h
  refine wpAny_execs_cons (thn (h1 pins s σ H D I h) fun f s1 q => ?_)
  cases f with
  | next => exact wpAny_execs_nil q
  | ret v => exact q
  | brk => exact q
  | cont => exact q
def tBreak : TS := fun D σ H => D.bk σ H
def tCont : TS := fun D σ H => D.ct σ H
/-- in a def's body nothing is shown -/
theorem Inv.quiet {pins : List (Addr × Obj)} {σ : St} {H : Hp} {s : Shared} (I : Inv X pins σ H s) : interactive X.env = false := by simp [interactive, I.ok.kind]
/-- an expression whose value is dropped -/
def tDrop (te : TE) : TS := fun D σ H => te σ H fun _ H1 => D.nx σ H1
theorem ps_expr (he : PE X e te) (hs : swapsWith e none pos.line X.env = pure false := by rfl) : PS X (.Expr e pos) (tDrop te) := by
  intro pins s σ H D I h
  exact wpAny_Expr_any (thn (he pins s σ H _ I h) fun v s1 ⟨x, H1, I1, r1, q1⟩ => ⟨σ, H1, I1, q1⟩) I.quiet hs
def tRet (te : TE) : TS := fun D σ H => te σ H D.rt
theorem ps_ret (he : PE X e te) : PS X (.Return (some e) pos) (tRet te) := by
  intro pins s σ H D I h
  exact wpAny_Return_some (thn (he pins s σ H _ I h) fun v s1 ⟨x, H1, I1, r1, q1⟩ => ⟨x, σ, H1, I1, r1, q1⟩)
def tRetN : TS := fun D _ H => D.rt .non H
def tIfS (c : TT) (t u : TS) : TS := fun D σ H => c σ H fun b H1 => if b = true then t D σ H1 else u D σ H1
theorem ps_if {c : Expr} {a b : List Stmt} {tc : TT} (hc : PT X c tc) (ha : PSs X a t) (hb : PSs X b u) : PS X (.If c a b pos) (tIfS tc t u) := by
  intro pins s σ H D I h
  refine wpAny_If (thn (hc pins s σ H _ I h) fun d s1 ⟨H1, I1, q1⟩ => ?_)
  cases d with
  | true => exact ha pins s1 σ H1 D I1 q1
  | false => exact hb pins s1 σ H1 D I1 q1
end

/-! ### targets -/
abbrev TG := V → St → Hp → (St → Hp → Prop) → Prop
abbrev TGs := List V → St → Hp → (St → Hp → Prop) → Prop
def PG (X : Cx) (target : Expr) (t : TG) : Prop :=
  ∀ (pins : List (Addr × Obj)) (s : Shared) (σ : St) (H : Hp) (v : V) (u : Value) (Q : St → Hp → Prop), Inv X pins σ H s → RelV v u → t v σ H Q →
    wpAny (model X.prog X.w) X.A (assign target X.env u) (fun _ s' => ∃ σ' H', Inv X pins σ' H' s' ∧ Q σ' H') X.xe s
/-- several targets, one after another -/
def PGs (X : Cx) (ts : List Expr) (t : TGs) : Prop :=
  ∀ (pins : List (Addr × Obj)) (s : Shared) (σ : St) (H : Hp) (vs : List V) (us : List Value) (Q : St → Hp → Prop), Inv X pins σ H s → Vals vs us → t vs σ H Q →
    wpAny (model X.prog X.w) X.A (assignInOrder ((assignEach ts X.env).map (·.2)) us) (fun _ s' => ∃ σ' H', Inv X pins σ' H' s' ∧ Q σ' H') X.xe s
/-- o[i] = v, by values -/
abbrev TSet := V → V → V → Hp → (Hp → Prop) → Prop
def PSet (X : Cx) (t : TSet) : Prop :=
  ∀ (pins : List (Addr × Obj)) (s : Shared) (σ : St) (H : Hp) (o i v : V) (ov iv u : Value) (Q : Hp → Prop), Inv X pins σ H s → RelV o ov → RelV i iv → RelV v u → t o i v H Q →
    wpAny (model X.prog X.w) X.A (setItem ov iv u) (fun _ s' => ∃ H', Inv X pins σ H' s' ∧ Q H') X.xe s
section
variable {X : Cx} {pos : Pos}
def gName (i : Nat) : TG := fun v σ H Q => Q (σ.set i (some v)) H
theorem pg_name {i : Nat} {x : Str} (hN : X.N.Nodup) (hi : X.N[i]? = some x) (hx : Loc X.env.scope x) (hf : X.fn x = true ∨ X.env.scope.names.lookup x = some .local := by first | exact .inl rfl | exact .inr rfl | assumption) : PG X (.Name x pos) (gName i) := by
  intro pins s σ H v u Q I r h
  exact wpAny_assign_Name (store_ok I hN hi hx r (fun s' I' => ⟨_, H, I', h⟩) hf)
def gNil : TGs := fun vs σ H Q => vs = [] ∧ Q σ H
def gCons (t : TG) (u : TGs) : TGs := fun vs σ H Q => ∃ v r, vs = v :: r ∧ t v σ H fun σ' H' => u r σ' H' Q
theorem pgs_nil : PGs X [] gNil := by
  intro pins s σ H vs us Q I r h
  obtain ⟨e, h⟩ := h
  subst e
  cases r
  exact assignInOrder_nil ⟨σ, H, I, h⟩
theorem pgs_cons {e : Expr} {es : List Expr} {t : TG} {u : TGs} (h1 : PG X e t) (h2 : PGs X es u)
    (hs : (assignEach (e :: es) X.env).map (·.2) = assign e X.env :: (assignEach es X.env).map (·.2) := by rfl) : PGs X (e :: es) (gCons t u) := by
  intro pins s σ H vs us Q I r h
  obtain ⟨v, vr, e1, h⟩ := h
  subst e1
  cases r with
  | cons r rr =>
    rw [hs]
    refine assignInOrder_cons (thn (h1 pins s σ H _ _ _ I r h) fun _ s1 ⟨σ1, H1, I1, q1⟩ => ?_)
    exact h2 pins s1 σ1 H1 _ _ Q I1 rr q1
/-- (a, b, ..) = a tuple of that length -/
def gTup (K : PySem.W.Frag) (n : Nat) (t : TGs) : TG := fun v σ H Q => ∃ a xs, v = .ref a ∧ SqT K H a xs ∧ xs.length = n ∧ t xs σ H Q
theorem pg_tup {es : List Expr} {k : Nat} {t : TGs} {n : Nat} (hc : X.calm = true) (h : PGs X es t)
    (hn : (assignEach es X.env).length = n := by rfl) (hst : (assignEach es X.env).findIdx? (·.1) = none := by rfl) : PG X (.Tuple es k pos) (gTup X.K n t) := by
  intro pins s σ H v u Q I r hw
  obtain ⟨a, xs, e1, hq, hl, hw⟩ := hw
  subst e1
  cases r
  obtain ⟨its, rv, ht, hz⟩ := I.tuple hq
  refine assign_Tuple_tuple (I.ok.hd hc) ht (by simp [hn, ← hl, rv.length]) hst fun h' hx => ?_
  have I1 : Inv X pins σ H { s with heap := h' } := I.kept (t' := s.toks) fun b o e => hx b o (Nat.ne_of_lt (Heap.lt_size e)) e
  exact h pins _ σ H xs _ Q I1 (by simpa using rv) hw
/-- o[i] = .. -/
def gSub (to ti : TE) (t : TSet) : TG := fun v σ H Q => to σ H fun o H1 => ti σ H1 fun i H2 => t o i v H2 fun H3 => Q σ H3
theorem pg_sub {o i : Expr} {to ti : TE} {t : TSet} (ho : PE X o to) (hi : PE X i ti) (hs : PSet X t)
    (ha : ∀ v, assign (.Subscript o i pos) X.env v = (do
      let ov ← holding [v] (eval o X.env)
      let iv ← holding [v, ov] (eval i X.env)
      standAt pos
      holding [v, ov, iv] (setItem ov iv v)
      release [v, ov, iv] []) := by intro _; rfl) : PG X (.Subscript o i pos) (gSub to ti t) := by
  intro pins s σ H v u Q I r h
  rw [ha]
  refine wpAny_bind (wpAny_holding (thn (ho pins s σ H _ I h) fun ov s1 ⟨x, H1, I1, r1, q1⟩ => ?_))
  refine wpAny_bind (wpAny_holding (thn (hi pins s1 σ H1 _ I1 q1) fun iv s2 ⟨y, H2, I2, r2, q2⟩ => ?_))
  refine wpAny_bind (wpAny_standAt (wpAny_bind (wpAny_holding (thn (hs pins s2 σ H2 x y v ov iv u _ I2 r1 r2 r q2) fun _ s3 ⟨H3, I3, q3⟩ => ?_))))
  exact wpAny_release ⟨σ, H3, I3, q3⟩
/-- target = value -/
def tAsg (te : TE) (g : TG) : TS := fun D σ H => te σ H fun x H1 => g x σ H1 D.nx
theorem ps_asg {tg e : Expr} {te : TE} {g : TG} (he : PE X e te) (hg : PG X tg g) (hs : swapsWithSole [tg] e pos.line X.env = pure false := by rfl) (hw : swappedStores [tg] e X.env = pure none := by rfl)
    (h1 : (assignEach [tg] X.env).map (·.2) = [assign tg X.env] := by rfl) : PS X (.Assign [tg] e pos) (tAsg te g) := by
  intro pins s σ H D I h
  refine wpAny_Assign_stores (thn (he pins s σ H _ I h) fun v s1 ⟨x, H1, I1, r1, q1⟩ => ?_) hs hw
  rw [h1]
  exact thn (hg pins s1 σ H1 x v _ I1 r1 q1) fun _ s2 q => q
/-- name = value -/
theorem ps_set {i : Nat} {x : Str} {e : Expr} {te : TE} {pos' : Pos} (hN : X.N.Nodup) (hi : X.N[i]? = some x) (hx : Loc X.env.scope x) (he : PE X e te) (hs : swapsWith e (some (.Name x pos')) pos.line X.env = pure false := by rfl) (hf : X.fn x = true ∨ X.env.scope.names.lookup x = some .local := by first | exact .inl rfl | exact .inr rfl | assumption) :
    PS X (.Assign [.Name x pos'] e pos) (tAsg te (gName i)) := by
  intro pins s σ H D I h
  refine wpAny_Assign_Name (thn (he pins s σ H _ I h) fun v s1 ⟨y, H1, I1, r1, q1⟩ => ?_) hs
  exact store_ok I1 hN hi hx r1 (fun s2 I2 => ⟨_, H1, I2, q1⟩) hf
end

/-! ### while -/
section
variable {X : Cx} {pos : Pos}
/-- the invariant W with its measure -/
def tWhile (c : TT) (tb : TS) : TS := fun D σ H => ∃ W : Nat → St → Hp → Prop, (∃ m, W m σ H) ∧ ∀ m σ H, W m σ H →
  c σ H fun b H1 => if b = true then ∃ N : St → Hp → Prop, (∀ σ' H', N σ' H' → ∃ m', m' < m ∧ W m' σ' H') ∧ tb { D with nx := N, ct := N, bk := D.nx } σ H1 else D.nx σ H1
theorem ps_while {c : Expr} {body : List Stmt} {tc : TT} {tb : TS} (hp : PassesOwn (model X.prog X.w) X.A X.env X.xe) (hc : PT X c tc) (hb : PSs X body tb) : PS X (.While c body [] pos) (tWhile tc tb) := by
  intro pins s σ H D I h
  obtain ⟨W, ⟨m0, w0⟩, turn⟩ := h
  refine wpAny_While (codeAny_whileLoop (fun n s' => ∃ σ' H', Inv X pins σ' H' s' ∧ W n σ' H') ?_ m0 ⟨σ, H, I, w0⟩)
  rintro n s1 ⟨σ1, H1, I1, w1⟩
  refine wpAny_passesOwn hp (thn (hc pins s1 σ1 H1 _ I1 (turn n σ1 H1 w1)) fun b s2 ⟨H2, I2, q2⟩ => ?_)
  cases b with
  | true =>
    obtain ⟨N, hN, q2⟩ := q2
    rw [if_pos rfl]
    refine wpAny_passesOwn hp (thn (hb pins s2 σ1 H2 _ I2 q2) fun f s3 q3 => ?_)
    cases f with
    | next =>
      obtain ⟨σ3, H3, I3, n3⟩ := q3
      obtain ⟨m', hm, w3⟩ := hN σ3 H3 n3
      exact ⟨m', hm, σ3, H3, I3, w3⟩
    | cont =>
      obtain ⟨σ3, H3, I3, n3⟩ := q3
      obtain ⟨m', hm, w3⟩ := hN σ3 H3 n3
      exact ⟨m', hm, σ3, H3, I3, w3⟩
    | brk => exact q3
    | ret v => exact q3
  | false =>
    rw [if_neg Bool.false_ne_true]
    exact wpAny_execs_nil ⟨σ1, H2, I2, q2⟩
end

/-! ### what a loop or a comprehension walks -/
/-- at turn i: it yields x (the heap may grow), or it stops -/
structure It where
  go : Nat → Hp → Prop
  yld : Nat → Hp → V → Hp → Prop
  stop : Nat → Hp → Prop
/-- the iterator's own objects may turn: they are not the frame's, not pinned, younger than the entry (or a comprehension's own) -/
def FpOk (X : Cx) (pins : List (Addr × Obj)) (H : Hp) (b : Addr) : Prop :=
  H b = none ∧ b ≠ X.env.locals ∧ b ∉ X.fs ∧ (b ∈ X.ex ∨ X.s_0.heap.objs.size ≤ b) ∧ (∀ x c, X.env.cells.lookup x = some c → c ≠ b) ∧ ∀ p ∈ X.pn ++ pins, p.1 ≠ b
theorem Inv.fpOk {X : Cx} {pins : List (Addr × Obj)} {σ : St} {H H' : Hp} {s : Shared} {b : Addr} (I : Inv X pins σ H s) (hb : s.heap.objs.size ≤ b) (hn : H' b = none) : FpOk X pins H' b := by
  refine ⟨hn, Nat.ne_of_gt (Nat.lt_of_lt_of_le I.lt hb), I.nofs hb, .inr (Nat.le_trans I.sz hb), fun x c e z => ?_, fun p hp z => ?_⟩
  · obtain ⟨v, q⟩ := I.cell x c e
    exact absurd (Nat.lt_of_lt_of_le q.lt (by rw [z]; exact hb)) (Nat.lt_irrefl _)
  · exact absurd (Nat.lt_of_lt_of_le (Heap.lt_size (I.pin p hp).1) (by rw [z]; exact hb)) (Nat.lt_irrefl _)
structure Turn (P : Program) (w : World) (K : PySem.W.Frag) (tg : Expr) (J : It) (fp : List Addr) (it : Addr) (tn : Nat → Heap → Prop) : Prop where
  mem : it ∈ fp
  obj : ∀ i h, tn i h → ∀ b ∈ fp, ∃ o, h.get? b = some o ∧ ∀ v, o.data ≠ .cell v
  keep : ∀ i h h', tn i h → (∀ b ∈ fp, ∀ o, h.get? b = some o → h'.get? b = some o) → tn i h'
  item : ∀ (X : Cx), X.prog = P → X.w = w → X.K = K → X.calm = true → ∀ (i : Nat) (pins : List (Addr × Obj)) (s : Shared) (σ : St) (H : Hp) (E : Value → Shared → Prop), Inv X pins σ H s → (∀ b ∈ fp, FpOk X pins H b) → tn i s.heap → J.go i H →
    wpAny (model P w) X.A (pyNext (.ref it)) (fun r s1 => ∃ u, r = some u ∧
      wpAny (model P w) X.A (letOwnedTupleGo tg (.ref it) u) (fun _ s2 => ∃ x H', Inv X pins σ H' s2 ∧ RelV x u ∧ J.yld i H x H' ∧ tn (i + 1) s2.heap ∧ ∀ b ∈ fp, H' b = none) E s1) E s
  done : ∀ (X : Cx), X.prog = P → X.w = w → X.K = K → X.calm = true → ∀ (i : Nat) (pins : List (Addr × Obj)) (s : Shared) (σ : St) (H : Hp) (E : Value → Shared → Prop), Inv X pins σ H s → (∀ b ∈ fp, FpOk X pins H b) → tn i s.heap → J.stop i H →
    wpAny (model P w) X.A (pyNext (.ref it)) (fun r s1 => r = none ∧ Inv X pins σ H s1) E s
  self : ∀ (A : Around) (i : Nat) (s : Shared) (Q : Value → Shared → Prop) (E : Value → Shared → Prop), tn i s.heap → Q (.ref it) s → wpAny (model P w) A (pyIter (.ref it)) Q E s
abbrev TI := St → Hp → (It → Hp → Prop) → Prop
/-- an iterator has come -/
def PIE (X : Cx) (pins : List (Addr × Obj)) (σ : St) (tg : Expr) (R : It → Hp → Prop) (itv : Value) (s2 : Shared) : Prop :=
  ∃ (it : Addr) (fp : List Addr) (tn : Nat → Heap → Prop) (J : It) (H' : Hp), itv = .ref it ∧ Inv X pins σ H' s2 ∧ Turn X.prog X.w X.K tg J fp it tn ∧ tn 0 s2.heap ∧ (∀ b ∈ fp, FpOk X pins H' b) ∧ R J H'
def PI (X : Cx) (tg iter : Expr) (wi : TI) : Prop :=
  ∀ (pins : List (Addr × Obj)) (s : Shared) (σ : St) (H : Hp) (R : It → Hp → Prop), Inv X pins σ H s → wi σ H R →
    wpAny (model X.prog X.w) X.A (eval iter X.env) (fun v s1 => wpAny (model X.prog X.w) X.A (pyIter v) (PIE X pins σ tg R) X.xe s1) X.xe s

/-- the step ahead of the store is nothing for an iterator that keeps no tuple -/
theorem go_of {M : Model} {A : Around} {E : Value → Shared → Prop} {s : Shared} {tg : Expr} {it : Addr} {u : Value} {o : Obj} {n : String} {vs : Array Value} {Q : Unit → Shared → Prop} (ho : s.heap.get? it = some o) (hc : o.cls = .type n) (hd : o.data = .fields vs)
    (hn : ["enumerate", "zip", "dict_itemiterator", "dict_reverseitemiterator", "odict_iterator", "itertools.zip_longest", "itertools.pairwise"].contains n = false) (hQ : Q () s) : wpAny M A (letOwnedTupleGo tg (.ref it) u) Q E s := by
  unfold letOwnedTupleGo
  cases tg <;> first
    | exact wpAny_pure hQ
    | (cases u <;> first
        | exact wpAny_pure hQ
        | (refine wpAny_bind (wpAny_load ho ?_)
           rw [hc, hd]
           show wpAny M A (if (["enumerate", "zip", "dict_itemiterator", "dict_reverseitemiterator", "odict_iterator", "itertools.zip_longest", "itertools.pairwise"].contains n && vs[0]? == some (rawInt _)) = true then _ else _) Q E s
           rw [if_neg (by intro h; rw [hn, Bool.false_and] at h; cases h)]
           exact wpAny_pure hQ))

/-- the list at a, as it stands at each turn (a loop may append to it) -/
def Itl (K : PySem.W.Frag) (a : Addr) : It :=
  ⟨fun i H => ∃ xs x, SqL K H a xs ∧ xs[i]? = some x, fun i H x H' => H' = H ∧ ∀ xs, SqL K H a xs → xs[i]? = some x, fun i H => ∃ xs, SqL K H a xs ∧ xs.length ≤ i⟩
def Itt (K : PySem.W.Frag) (a : Addr) : It :=
  ⟨fun i H => ∃ xs x, SqT K H a xs ∧ xs[i]? = some x, fun i H x H' => H' = H ∧ ∀ xs, SqT K H a xs → xs[i]? = some x, fun i H => ∃ xs, SqT K H a xs ∧ xs.length ≤ i⟩
/-- lo, lo + 1, .. (n of them) -/
def Itr (lo : Int) (n : Nat) : It := ⟨fun i _ => i < n, fun i H x H' => H' = H ∧ x = .int (lo + i), fun i _ => n ≤ i⟩
theorem turn_list {P : Program} {w : World} {K : PySem.W.Frag} {tg : Expr} (a it : Addr) : Turn P w K tg (Itl K a) [it] it (fun i h => h.IsListIter it a i) where
  mem := by simp
  obj := fun i h st b hb => by
    have e : b = it := by simpa using hb
    subst e
    obtain ⟨o, e, c, d⟩ := st
    exact ⟨o, e, fun v z => by rw [d] at z; cases z⟩
  keep := fun i h h' st k => st.at fun o e => k it (by simp) o e
  item := by
    intro X hP hw hK hc i pins s σ H E I hf st hg
    subst hP hw hK
    obtain ⟨xs, x, hq, hx⟩ := hg
    obtain ⟨its, rv, p, hz⟩ := I.list hq
    obtain ⟨u, hu, ru⟩ := rv.get hx
    obtain ⟨f0, f1, f2, f3, f4, f5⟩ := hf it (by simp)
    refine wpAny_pyNext_list_item st p.isList (x := u) (by simpa using hu) fun h' st' sb => ?_
    have I1 : Inv X pins σ H { s with heap := h' } := I.turned (t' := s.toks) (fun b o hb e => (sb.2 b hb).trans e) f0 f1 f3 f4 f5
    obtain ⟨o, e, c, d⟩ := id st'
    exact ⟨u, rfl, go_of (s := { s with heap := h' }) e c d (by decide) ⟨x, H, I1, ru, ⟨rfl, fun ys hy => by rw [I.list_inj hy hq]; exact hx⟩, st', fun b hb => (hf b hb).1⟩⟩
  done := by
    intro X hP hw hK hc i pins s σ H E I hf st hg
    subst hP hw hK
    obtain ⟨xs, hq, hx⟩ := hg
    obtain ⟨its, rv, p, hz⟩ := I.list hq
    obtain ⟨f0, f1, f2, f3, f4, f5⟩ := hf it (by simp)
    have hl := rv.length
    exact wpAny_pyNext_list_end (I.ok.hd hc) st p.isList (by simp; omega) fun h' eb => ⟨rfl, I.turned (t' := s.toks) (fun b o hb e => eb b o hb e) f0 f1 f3 f4 f5⟩
  self := fun _ _ _ _ _ st h => wpAny_pyIter_listiter st h
theorem turn_tuple {P : Program} {w : World} {K : PySem.W.Frag} {tg : Expr} (a it : Addr) : Turn P w K tg (Itt K a) [it] it (fun i h => h.IsTupleIter it a i) where
  mem := by simp
  obj := fun i h st b hb => by
    have e : b = it := by simpa using hb
    subst e
    obtain ⟨o, e, c, d⟩ := st
    exact ⟨o, e, fun v z => by rw [d] at z; cases z⟩
  keep := fun i h h' st k => st.at fun o e => k it (by simp) o e
  item := by
    intro X hP hw hK hc i pins s σ H E I hf st hg
    subst hP hw hK
    obtain ⟨xs, x, hq, hx⟩ := hg
    obtain ⟨its, rv, p, hz⟩ := I.tuple hq
    obtain ⟨u, hu, ru⟩ := rv.get hx
    obtain ⟨f0, f1, f2, f3, f4, f5⟩ := hf it (by simp)
    refine wpAny_pyNext_tuple_item st (show s.heap.IsTuple a its.toArray from p) (x := u) (by simpa using hu) fun h' st' sb => ?_
    have I1 : Inv X pins σ H { s with heap := h' } := I.turned (t' := s.toks) (fun b o hb e => (sb.2 b hb).trans e) f0 f1 f3 f4 f5
    obtain ⟨o, e, c, d⟩ := id st'
    exact ⟨u, rfl, go_of (s := { s with heap := h' }) e c d (by decide) ⟨x, H, I1, ru, ⟨rfl, fun ys hy => by rw [I.tuple_inj hy hq]; exact hx⟩, st', fun b hb => (hf b hb).1⟩⟩
  done := by
    intro X hP hw hK hc i pins s σ H E I hf st hg
    subst hP hw hK
    obtain ⟨xs, hq, hx⟩ := hg
    obtain ⟨its, rv, p, hz⟩ := I.tuple hq
    obtain ⟨f0, f1, f2, f3, f4, f5⟩ := hf it (by simp)
    have hl := rv.length
    exact wpAny_pyNext_tuple_end (I.ok.hd hc) st (show s.heap.IsTuple a its.toArray from p) (by simp; omega) fun h' eb => ⟨rfl, I.turned (t' := s.toks) (fun b o hb e => eb b o hb e) f0 f1 f3 f4 f5⟩
  self := fun _ _ _ _ _ st h => wpAny_pyIter_tupleiter st h
theorem turn_range {P : Program} {w : World} {K : PySem.W.Frag} {tg : Expr} (it : Addr) (lo : Int) (n : Nat) : Turn P w K tg (Itr lo n) [it] it (fun i h => IsRangeIter h it (lo + (i : Nat) * 1) ((n : Int) - (i : Nat)) 1) where
  mem := by simp
  obj := fun i h st b hb => by
    have e : b = it := by simpa using hb
    subst e
    exact ⟨_, st, fun v z => by
      have z' : Data.fields _ = Data.cell v := z
      cases z'⟩
  keep := fun i h h' st k => k it (by simp) _ st
  item := by
    intro X hP hw hK hc i pins s σ H E I hf st hg
    subst hP hw hK
    obtain ⟨f0, f1, f2, f3, f4, f5⟩ := hf it (by simp)
    have W := Walks.range (prog := X.prog) (w := X.w) (I.ok.hd hc) it lo 1 n
    refine W.item i s _ _ hg st fun v h' tk hv st' kk => ?_
    obtain ⟨t, rfl⟩ := hv
    have I1 : Inv X pins σ H { s with heap := h', toks := tk } := I.turned (fun b o hb e => kk b o (by simpa using hb) e) f0 f1 f3 f4 f5
    refine ⟨_, rfl, go_of (s := { s with heap := h', toks := tk }) (n := "range_iterator") st' rfl rfl (by decide) ⟨.int (lo + i), H, I1, ⟨t, ?_⟩, ⟨rfl, rfl⟩, st', fun b hb => (hf b hb).1⟩⟩
    rw [Int.mul_one]
  done := by
    intro X hP hw hK hc i pins s σ H E I hf st hg
    subst hP hw hK
    obtain ⟨f0, f1, f2, f3, f4, f5⟩ := hf it (by simp)
    exact wpAny_pyNext_range_end (I.ok.hd hc) st (by have : n ≤ i := hg; omega) fun h' eb => ⟨rfl, I.turned (t' := s.toks) (fun b o hb e => eb b o hb e) f0 f1 f3 f4 f5⟩
  self := fun _ _ _ _ _ st h => wpAny_pyIter_rangeiter st h
end L2

namespace L2
open PySem PySem.Spec PyProof.Rows
section
variable {X : Cx} {tg : Expr}
def iList (K : PySem.W.Frag) (tl : TE) : TI := fun σ H R => tl σ H fun x H1 => ∃ a, x = .ref a ∧ (∃ xs, SqL K H1 a xs) ∧ R (Itl K a) H1
def iTup (K : PySem.W.Frag) (tl : TE) : TI := fun σ H R => tl σ H fun x H1 => ∃ a, x = .ref a ∧ (∃ xs, SqT K H1 a xs) ∧ R (Itt K a) H1
theorem pi_list {l : Expr} {tl : TE} (hl : PE X l tl) : PI X tg l (iList X.K tl) := by
  intro pins s σ H R I h
  refine thn (hl pins s σ H _ I h) fun v s1 ⟨x, H1, I1, r1, q1⟩ => ?_
  obtain ⟨a, e, ⟨xs, hq⟩, q⟩ := q1
  subst e
  cases r1
  obtain ⟨its, rv, p, hz⟩ := I1.list hq
  refine wpAny_pyIter_list p.isList ?_
  refine ⟨s1.heap.objs.size, [s1.heap.objs.size], _, _, H1, rfl, I1.kept (t' := s1.toks) fun b o e => Heap.get?_push_of_some _ e, turn_list a _, ⟨_, Heap.get?_push_size _ rfl, rfl, rfl⟩, fun b hb => ?_, q⟩
  have e : b = s1.heap.objs.size := by simpa using hb
  subst e
  exact I1.fpOk (Nat.le_refl _) (I1.hok.fresh (Nat.le_refl _))
theorem pi_tup {l : Expr} {tl : TE} (hl : PE X l tl) : PI X tg l (iTup X.K tl) := by
  intro pins s σ H R I h
  refine thn (hl pins s σ H _ I h) fun v s1 ⟨x, H1, I1, r1, q1⟩ => ?_
  obtain ⟨a, e, ⟨xs, hq⟩, q⟩ := q1
  subst e
  cases r1
  obtain ⟨its, rv, p, hz⟩ := I1.tuple hq
  refine wpAny_pyIter_tuple (show s1.heap.IsTuple a its.toArray from p) ?_
  refine ⟨s1.heap.objs.size, [s1.heap.objs.size], _, _, H1, rfl, I1.kept (t' := s1.toks) fun b o e => Heap.get?_push_of_some _ e, turn_tuple a _, ⟨_, Heap.get?_push_size _ rfl, rfl, rfl⟩, fun b hb => ?_, q⟩
  have e : b = s1.heap.objs.size := by simpa using hb
  subst e
  exact I1.fpOk (Nat.le_refl _) (I1.hok.fresh (Nat.le_refl _))
/-- a range object just made, walked -/
theorem range_it {pins : List (Addr × Obj)} {σ : St} {H : Hp} {s : Shared} {R : It → Hp → Prop} {E : Value → Shared → Prop} {lo hi : Int} {t u v : Tok} {tk : Nat} (I : Inv X pins σ H s) (h1 : -(2 ^ 62) ≤ lo) (h2 : lo < 2 ^ 62) (h3 : -(2 ^ 62) ≤ hi) (h4 : hi < 2 ^ 62)
    (q : R (Itr lo (hi - lo).toNat) H) : wpAny (model X.prog X.w) X.A (pyIter (.ref s.heap.objs.size)) (PIE X pins σ tg R) E { s with heap := s.heap.push { cls := .type "range", data := .fields #[.int lo t, .int hi u, .int 1 v] }, toks := tk } := by
  refine wpAny_pyIter_range (IsRange.new ..) (small_one h1 h2 h3 h4) ?_
  have I1 : Inv X pins σ H { s with heap := s.heap.push { cls := .type "range", data := .fields #[.int lo t, .int hi u, .int 1 v] }, toks := tk } := I.kept fun b o e => Heap.get?_push_of_some _ e
  refine ⟨(s.heap.push { cls := .type "range", data := .fields #[.int lo t, .int hi u, .int 1 v] }).objs.size, [(s.heap.push { cls := .type "range", data := .fields #[.int lo t, .int hi u, .int 1 v] }).objs.size], _, _, H, rfl,
    I1.kept (t' := tk) fun b o e => Heap.get?_push_of_some _ e, turn_range _ lo (hi - lo).toNat, ?_, fun b hb => ?_, q⟩
  · have e1 : lo + ((0 : Nat) : Int) * 1 = lo := by simp
    have e2 : (((hi - lo).toNat : Nat) : Int) - ((0 : Nat) : Int) = Builtin.Range.rangeSize lo hi 1 := by rw [rangeSize_one]; split <;> omega
    show IsRangeIter _ _ (lo + ((0 : Nat) : Int) * 1) ((((hi - lo).toNat : Nat) : Int) - ((0 : Nat) : Int)) 1
    rw [e1, e2]
    exact Heap.get?_push_size _ rfl
  · have e : b = (s.heap.push { cls := .type "range", data := .fields #[.int lo t, .int hi u, .int 1 v] }).objs.size := by simpa using hb
    subst e
    exact I1.fpOk (Nat.le_refl _) (I1.hok.fresh (Nat.le_refl _))
def iRng1 (ta : TA) : TI := fun σ H R => ta σ H fun vs H1 => ∃ j : Int, vs = [.int j] ∧ -(2 ^ 62) ≤ j ∧ j < 2 ^ 62 ∧ R (Itr 0 j.toNat) H1
def iRng2 (ta : TA) : TI := fun σ H R => ta σ H fun vs H1 => ∃ i j : Int, vs = [.int i, .int j] ∧ (-(2 ^ 62) ≤ i ∧ i < 2 ^ 62 ∧ -(2 ^ 62) ≤ j ∧ j < 2 ^ 62) ∧ R (Itr i (j - i).toNat) H1
theorem pi_range2 {a b : Expr} {ta : TA} {p pos : Pos} (hg : Gl X "range") (hm : X.mg "range" = none) (ha : PA X [a, b] ta) (hs : starEach [a, b] X.env = [(false, eval a X.env), (false, eval b X.env)] := by rfl) (hs2 : starEach [b] X.env = [(false, eval b X.env)] := by rfl) :
    PI X tg (.Call (.Name "range" p) [a, b] [] pos) (iRng2 ta) := by
  intro pins s σ H R I h
  refine Call_ (ld_blt I hg hm boot_range (PyProof.Rows.callWith_type1 (thn (ha pos pins s σ H _ I h) fun us s1 ⟨vs, H1, I1, r1, q1⟩ => ?_) (by rw [hs, hs2]) (by rw [hs2]; rfl)))
  obtain ⟨i, j, e, ⟨q1, q2, q3, q4⟩, q⟩ := q1
  subst e
  cases r1 with
  | cons r rr =>
    cases rr with
    | cons r' rr =>
      cases rr
      obtain ⟨t, rfl⟩ := r
      obtain ⟨t', rfl⟩ := r'
      exact call_range_2 (range_it I1 q1 q2 q3 q4 q)

/-! ### for -/
/-- W: the invariant by the turn and a measure; N: what the body is to reach -/
def tFor (wi : TI) (g : TG) (tb : TS) : TS := fun D σ H => wi σ H fun J H1 => ∃ W : Nat → Nat → St → Hp → Prop, (∃ m, W 0 m σ H1) ∧ ∀ i m σ H, W i m σ H →
  (J.stop i H ∧ D.nx σ H) ∨ (J.go i H ∧ ∃ N : St → Hp → Prop, (∀ σ' H', N σ' H' → ∃ m', m' < m ∧ W (i + 1) m' σ' H') ∧ ∀ x H', J.yld i H x H' → g x σ H' fun σ2 H2 => tb { D with nx := N, ct := N, bk := D.nx } σ2 H2)
/-- the records at fp as they stand -/
def pinsAt (fp : List Addr) (h : Heap) : List (Addr × Obj) := fp.filterMap fun b => (h.get? b).map fun o => (b, o)
theorem mem_pinsAt {fp : List Addr} {h : Heap} {b : Addr} {o : Obj} (hb : b ∈ fp) (e : h.get? b = some o) : (b, o) ∈ pinsAt fp h := List.mem_filterMap.mpr ⟨b, hb, by rw [e]; rfl⟩
theorem of_pinsAt {fp : List Addr} {h : Heap} {p : Addr × Obj} (hp : p ∈ pinsAt fp h) : p.1 ∈ fp ∧ h.get? p.1 = some p.2 := by
  obtain ⟨b, hb, e⟩ := List.mem_filterMap.mp hp
  cases q : h.get? b with
  | none => rw [q] at e; cases e
  | some o =>
    rw [q] at e
    have e' : (b, o) = p := Option.some.inj e
    subst e'
    exact ⟨hb, q⟩
theorem Inv.pinned {pins : List (Addr × Obj)} {σ : St} {H : Hp} {s : Shared} {fp : List Addr} (I : Inv X pins σ H s) (hf : ∀ b ∈ fp, FpOk X pins H b) (ho : ∀ b ∈ fp, ∃ o, s.heap.get? b = some o ∧ ∀ v, o.data ≠ .cell v) : Inv X (pins ++ pinsAt fp s.heap) σ H s :=
  I.pins_of fun p hp => (List.mem_append.mp hp).elim (fun z => I.pin p (List.mem_append_right _ z)) fun z => by
    obtain ⟨hb, e⟩ := of_pinsAt z
    obtain ⟨f0, f1, f2, _⟩ := hf p.1 hb
    obtain ⟨o, e', d⟩ := ho p.1 hb
    rw [e] at e'; cases e'
    exact ⟨e, f0, f1, f2, d⟩
theorem Inv.unpinned {pins pl : List (Addr × Obj)} {σ : St} {H : Hp} {s : Shared} (I : Inv X (pins ++ pl) σ H s) : Inv X pins σ H s := I.pins_of fun p hp => I.pin p (List.mem_append_right _ (List.mem_append_left _ hp))
theorem ps_for {iter : Expr} {body : List Stmt} {wi : TI} {g : TG} {tb : TS} {pos : Pos} (hp : PassesOwn (model X.prog X.w) X.A X.env X.xe) (hc : X.calm = true) (hi : PI X tg iter wi) (hg : PG X tg g) (hb : PSs X body tb)
    (hs : ∀ x, foldedSetIterable iter X.env x = pure x := by intro _; rfl) : PS X (.For tg iter body [] pos) (tFor wi g tb) := by
  intro pins s σ H D I h
  refine wpAny_For (thn (hi pins s σ H _ I h) fun v s1 h1 => thn h1 fun itv s2 h2 => ?_) hs
  obtain ⟨it, fp, tn, J, H2, e, I2, T, st2, f2, W, ⟨m0, w0⟩, turn⟩ := h2
  subst e
  -- what stays true of the iterator's objects through the loop
  have stat : ∀ {H' : Hp}, (∀ b ∈ fp, H' b = none) → ∀ b ∈ fp, FpOk X pins H' b := fun hn b hb => ⟨hn b hb, (f2 b hb).2⟩
  refine codeAny_forLoop_any (fun n s' => ∃ i σ' H', Inv X pins σ' H' s' ∧ tn i s'.heap ∧ (∀ b ∈ fp, H' b = none) ∧ W i n σ' H') ?_ m0 ⟨0, σ, H2, I2, st2, fun b hb => (f2 b hb).1, w0⟩
  rintro n s3 ⟨i, σ3, H3, I3, st3, fr3, w3⟩
  rcases turn i n σ3 H3 w3 with ⟨stop, qn⟩ | ⟨go, N, hN, step⟩
  · refine wpAny_passesOwn hp (thn (T.done X rfl rfl rfl hc i pins s3 σ3 H3 X.xe I3 (stat fr3) st3 stop) fun r s4 ⟨hr, I4⟩ => ?_)
    subst hr
    exact wpAny_execs_nil ⟨σ3, H3, I4, qn⟩
  · refine wpAny_passesOwn hp (thn (T.item X rfl rfl rfl hc i pins s3 σ3 H3 X.xe I3 (stat fr3) st3 go) fun r s4 ⟨u, hr, h4⟩ => ?_)
    subst hr
    refine wpAny_passesOwn hp (thn h4 fun _ s5 ⟨x, H5, I5, r5, y5, st5, fr5⟩ => ?_)
    have I5' := I5.pinned (stat fr5) (T.obj _ _ st5)
    refine wpAny_passesOwn hp (thn (hg _ s5 σ3 H5 x u _ I5' r5 (step x H5 y5)) fun _ s6 ⟨σ6, H6, I6, q6⟩ => ?_)
    refine wpAny_passesOwn hp (thn (hb _ s6 σ6 H6 _ I6 q6) fun f s7 q7 => ?_)
    have again : ∀ {σ7 : St} {H7 : Hp}, Inv X (pins ++ pinsAt fp s5.heap) σ7 H7 s7 → N σ7 H7 → ∃ m, m < n ∧ ∃ i σ' H', Inv X pins σ' H' s7 ∧ tn i s7.heap ∧ (∀ b ∈ fp, H' b = none) ∧ W i m σ' H' := fun {σ7 H7} I7 n7 => by
      obtain ⟨m', hm, w7⟩ := hN σ7 H7 n7
      refine ⟨m', hm, i + 1, σ7, H7, I7.unpinned, T.keep _ _ _ st5 fun b hb o e => (I7.pin (b, o) (List.mem_append_right _ (List.mem_append_right _ (mem_pinsAt hb e)))).1, fun b hb => ?_, w7⟩
      obtain ⟨o, e, d⟩ := T.obj _ _ st5 b hb
      exact (I7.pin (b, o) (List.mem_append_right _ (List.mem_append_right _ (mem_pinsAt hb e)))).2.1
    cases f with
    | next => obtain ⟨σ7, H7, I7, n7⟩ := q7; exact again I7 n7
    | cont => obtain ⟨σ7, H7, I7, n7⟩ := q7; exact again I7 n7
    | brk => obtain ⟨σ7, H7, I7, q7⟩ := q7; exact ⟨σ7, H7, I7.unpinned, q7⟩
    | ret v => obtain ⟨x7, σ7, H7, I7, r7, q7⟩ := q7; exact ⟨x7, σ7, H7, I7.unpinned, r7, q7⟩
end

/-! ### the forms one uses -/
/-- over a list that the body leaves as it is -/
theorem for_list {K : PySem.W.Frag} {a : Addr} {xs : List V} {g : TG} {tb : TS} {D : Ends} {σ : St} {H : Hp} (Pv : Nat → St → Hp → Prop) (h0 : Pv 0 σ H) (hl : ∀ i σ H, i ≤ xs.length → Pv i σ H → SqL K H a xs)
    (hs : ∀ i x σ H, xs[i]? = some x → Pv i σ H → g x σ H fun σ2 H2 => tb { D with nx := Pv (i + 1), ct := Pv (i + 1), bk := D.nx } σ2 H2) (hd : ∀ σ H, Pv xs.length σ H → D.nx σ H) :
    ∃ W : Nat → Nat → St → Hp → Prop, (∃ m, W 0 m σ H) ∧ ∀ i m σ H, W i m σ H →
      ((Itl K a).stop i H ∧ D.nx σ H) ∨ ((Itl K a).go i H ∧ ∃ N : St → Hp → Prop, (∀ σ' H', N σ' H' → ∃ m', m' < m ∧ W (i + 1) m' σ' H') ∧ ∀ x H', (Itl K a).yld i H x H' → g x σ H' fun σ2 H2 => tb { D with nx := N, ct := N, bk := D.nx } σ2 H2) := by
  refine ⟨fun i m σ H => m = xs.length - i ∧ i ≤ xs.length ∧ Pv i σ H, ⟨xs.length, by simp, Nat.zero_le _, h0⟩, ?_⟩
  rintro i m σ H ⟨rfl, hi, p⟩
  have q := hl i σ H hi p
  by_cases hlt : i < xs.length
  · refine .inr ⟨⟨xs, xs[i], q, by simp [hlt]⟩, Pv (i + 1), fun σ' H' p' => ⟨xs.length - (i + 1), by omega, rfl, hlt, p'⟩, fun x H' y => ?_⟩
    obtain ⟨e, y⟩ := y
    subst e
    exact hs i x σ _ (y xs q) p
  · have e : i = xs.length := by omega
    subst e
    exact .inl ⟨⟨xs, q, Nat.le_refl _⟩, hd σ H p⟩
theorem for_tup {K : PySem.W.Frag} {a : Addr} {xs : List V} {g : TG} {tb : TS} {D : Ends} {σ : St} {H : Hp} (Pv : Nat → St → Hp → Prop) (h0 : Pv 0 σ H) (hl : ∀ i σ H, i ≤ xs.length → Pv i σ H → SqT K H a xs)
    (hs : ∀ i x σ H, xs[i]? = some x → Pv i σ H → g x σ H fun σ2 H2 => tb { D with nx := Pv (i + 1), ct := Pv (i + 1), bk := D.nx } σ2 H2) (hd : ∀ σ H, Pv xs.length σ H → D.nx σ H) :
    ∃ W : Nat → Nat → St → Hp → Prop, (∃ m, W 0 m σ H) ∧ ∀ i m σ H, W i m σ H →
      ((Itt K a).stop i H ∧ D.nx σ H) ∨ ((Itt K a).go i H ∧ ∃ N : St → Hp → Prop, (∀ σ' H', N σ' H' → ∃ m', m' < m ∧ W (i + 1) m' σ' H') ∧ ∀ x H', (Itt K a).yld i H x H' → g x σ H' fun σ2 H2 => tb { D with nx := N, ct := N, bk := D.nx } σ2 H2) := by
  refine ⟨fun i m σ H => m = xs.length - i ∧ i ≤ xs.length ∧ Pv i σ H, ⟨xs.length, by simp, Nat.zero_le _, h0⟩, ?_⟩
  rintro i m σ H ⟨rfl, hi, p⟩
  have q := hl i σ H hi p
  by_cases hlt : i < xs.length
  · refine .inr ⟨⟨xs, xs[i], q, by simp [hlt]⟩, Pv (i + 1), fun σ' H' p' => ⟨xs.length - (i + 1), by omega, rfl, hlt, p'⟩, fun x H' y => ?_⟩
    obtain ⟨e, y⟩ := y
    subst e
    exact hs i x σ _ (y xs q) p
  · have e : i = xs.length := by omega
    subst e
    exact .inl ⟨⟨xs, q, Nat.le_refl _⟩, hd σ H p⟩
theorem for_range {lo : Int} {n : Nat} {g : TG} {tb : TS} {D : Ends} {σ : St} {H : Hp} (Pv : Nat → St → Hp → Prop) (h0 : Pv 0 σ H)
    (hs : ∀ i σ H, i < n → Pv i σ H → g (.int (lo + i)) σ H fun σ2 H2 => tb { D with nx := Pv (i + 1), ct := Pv (i + 1), bk := D.nx } σ2 H2) (hd : ∀ σ H, Pv n σ H → D.nx σ H) :
    ∃ W : Nat → Nat → St → Hp → Prop, (∃ m, W 0 m σ H) ∧ ∀ i m σ H, W i m σ H →
      ((Itr lo n).stop i H ∧ D.nx σ H) ∨ ((Itr lo n).go i H ∧ ∃ N : St → Hp → Prop, (∀ σ' H', N σ' H' → ∃ m', m' < m ∧ W (i + 1) m' σ' H') ∧ ∀ x H', (Itr lo n).yld i H x H' → g x σ H' fun σ2 H2 => tb { D with nx := N, ct := N, bk := D.nx } σ2 H2) := by
  refine ⟨fun i m σ H => m = n - i ∧ i ≤ n ∧ Pv i σ H, ⟨n, by simp, Nat.zero_le _, h0⟩, ?_⟩
  rintro i m σ H ⟨rfl, hi, p⟩
  by_cases hlt : i < n
  · refine .inr ⟨hlt, Pv (i + 1), fun σ' H' p' => ⟨n - (i + 1), by omega, rfl, hlt, p'⟩, fun x H' y => ?_⟩
    obtain ⟨e, y⟩ := y
    subst e y
    exact hs i σ _ hlt p
  · have e : i = n := by omega
    subst e
    exact .inl ⟨Nat.le_refl _, hd σ H p⟩
end L2

namespace L2
open PySem PySem.Spec PyProof.Rows

abbrev R2 := V → V → Hp → VK → Prop
/-- a two-place operation on values: f is binaryOp op, inplaceOp op or compareOp op -/
def OpR (X : Cx) (f : Value → Value → Sem Value) (r : R2) : Prop :=
  ∀ (pins : List (Addr × Obj)) (s : Shared) (σ : St) (H : Hp) (x y : V) (v u : Value) (Q : VK), Inv X pins σ H s → RelV x v → RelV y u → r x y H Q →
    wpAny (model X.prog X.w) X.A (f v u) (EP X pins σ Q) X.xe s
/-- a call of a value that is known (a builtin, a type) with values -/
def CallR (X : Cx) (f : Value) (r : List V → Hp → VK → Prop) : Prop :=
  ∀ (pins : List (Addr × Obj)) (s : Shared) (σ : St) (H : Hp) (xs : List V) (us : List Value) (Q : VK), Inv X pins σ H s → Vals xs us → r xs H Q →
    wpAny (model X.prog X.w) X.A (call f us) (EP X pins σ Q) X.xe s

def tOp (r : R2) (ta tb : TE) : TE := fun σ H Q => ta σ H fun x H1 => tb σ H1 fun y H2 => r x y H2 Q
def tUn (r : V → Hp → VK → Prop) (ta : TE) : TE := fun σ H Q => ta σ H fun x H1 => r x H1 Q
/-- ints in, under C, and a value out -/
def rI (C : Int → Int → Prop) (g : Int → Int → V) : R2 := fun x y H Q => ∃ i j, x = .int i ∧ y = .int j ∧ C i j ∧ Q (g i j) H
def rI0 (g : Int → Int → V) : R2 := fun x y H Q => ∃ i j, x = .int i ∧ y = .int j ∧ Q (g i j) H
def rU (g : Int → V) : V → Hp → VK → Prop := fun x H Q => ∃ i, x = .int i ∧ Q (g i) H

section
variable {X : Cx} {a b c : Expr} {ta tb tc : TE} {pos : Pos}

theorem binT (ha : PE X a ta) (hb : PE X b tb) {pins : List (Addr × Obj)} {s : Shared} {σ : St} {H : Hp} {R : V → V → Hp → Prop} (I : Inv X pins σ H s)
    (h : ta σ H fun x H1 => tb σ H1 fun y H2 => R x y H2) {Q : Value → Shared → Prop} {f : Value → Value → Sem Value}
    (hf : ∀ v u s2 x y H2, Inv X pins σ H2 s2 → RelV x v → RelV y u → R x y H2 → wpAny (model X.prog X.w) X.A (f v u) Q X.xe s2) :
    wpAny (model X.prog X.w) X.A (eval a X.env) (fun v s₁ => wpAny (model X.prog X.w) X.A (eval b X.env) (fun u s₂ => wpAny (model X.prog X.w) X.A (f v u) Q X.xe s₂) X.xe s₁) X.xe s := by
  refine thn (ha pins s σ H _ I h) fun v s1 ⟨x, H1, I1, r1, q1⟩ => ?_
  refine thn (hb pins s1 σ H1 _ I1 q1) fun u s2 ⟨y, H2, I2, r2, q2⟩ => ?_
  exact hf v u s2 x y H2 I2 r1 r2 q2

theorem pe_op {op : Operator} {r : R2} (ho : OpR X (binaryOp op) r) (ha : PE X a ta) (hb : PE X b tb) : PE X (.BinOp a op b pos) (tOp r ta tb) := by
  intro pins s σ H Q I h
  exact wpAny_BinOp (binT ha hb I h fun v u s2 x y H2 I2 rx ry q => ho pins s2 σ H2 x y v u Q I2 rx ry q)

/-! ### ints -/
theorem opI {f : Value → Value → Sem Value} {C : Int → Int → Prop} {g : Int → Int → Int}
    (rule : ∀ (i j : Int) (t u : Tok) (s : Shared) (Q : Value → Shared → Prop) (E : Value → Shared → Prop), C i j → Q (.int (g i j) s.toks) { s with toks := s.toks + 1 } → wpAny (model X.prog X.w) X.A (f (.int i t) (.int j u)) Q E s) :
    OpR X f (rI C fun i j => .int (g i j)) := by
  intro pins s σ H x y v u Q I rx ry h
  obtain ⟨i, j, rfl, rfl, hc, q⟩ := h
  obtain ⟨t, rfl⟩ := rx
  obtain ⟨t', rfl⟩ := ry
  exact rule i j t t' s _ _ hc ⟨.int (g i j), H, I.tok _, ⟨_, rfl⟩, q⟩
theorem opI0 {f : Value → Value → Sem Value} {g : Int → Int → Int}
    (rule : ∀ (i j : Int) (t u : Tok) (s : Shared) (Q : Value → Shared → Prop) (E : Value → Shared → Prop), Q (.int (g i j) s.toks) { s with toks := s.toks + 1 } → wpAny (model X.prog X.w) X.A (f (.int i t) (.int j u)) Q E s) :
    OpR X f (rI0 fun i j => .int (g i j)) := by
  intro pins s σ H x y v u Q I rx ry h
  obtain ⟨i, j, rfl, rfl, q⟩ := h
  obtain ⟨t, rfl⟩ := rx
  obtain ⟨t', rfl⟩ := ry
  exact rule i j t t' s _ _ ⟨.int (g i j), H, I.tok _, ⟨_, rfl⟩, q⟩
theorem opB0 {f : Value → Value → Sem Value} {g : Int → Int → Bool}
    (rule : ∀ (i j : Int) (t u : Tok) (s : Shared) (Q : Value → Shared → Prop) (E : Value → Shared → Prop), Q (.bool (g i j)) s → wpAny (model X.prog X.w) X.A (f (.int i t) (.int j u)) Q E s) :
    OpR X f (rI0 fun i j => .bl (g i j)) := by
  intro pins s σ H x y v u Q I rx ry h
  obtain ⟨i, j, rfl, rfl, q⟩ := h
  obtain ⟨t, rfl⟩ := rx
  obtain ⟨t', rfl⟩ := ry
  exact rule i j t t' s _ _ ⟨.bl (g i j), H, I, rfl, q⟩

def CDiv (i j : Int) : Prop := 0 < j ∧ j < 1073741824
def CMul (i j : Int) : Prop := (-(2 ^ 64) < i ∧ i < 2 ^ 64) ∨ (-(2 ^ 64) < j ∧ j < 2 ^ 64)
theorem CMul.ok {i j : Int} (h : CMul i j) : IntMulOk i j := by
  rcases h with ⟨h1, h2⟩ | ⟨h1, h2⟩
  · exact .of_left (intBits_le_64 h1 h2)
  · exact .of_right (intBits_le_64 h1 h2)

theorem op_add : OpR X (binaryOp .Add) (rI0 fun i j => .int (i + j)) := opI0 fun _ _ _ _ _ _ _ q => add_int q
theorem op_sub : OpR X (binaryOp .Sub) (rI0 fun i j => .int (i - j)) := opI0 fun _ _ _ _ _ _ _ q => sub_int q
theorem op_mul : OpR X (binaryOp .Mult) (rI CMul fun i j => .int (i * j)) := opI fun _ _ _ _ _ _ _ hc q => mul_int q hc.ok
/-- // by a positive divisor -/
theorem op_fdiv : OpR X (binaryOp .FloorDiv) (rI CDiv fun i j => .int (i / j)) := opI fun i j _ _ _ _ _ hc q => by
  have h1 : (0 : Int) < j := hc.1
  have h2 : j < 1073741824 := hc.2
  exact floordiv_int (by omega) (by rw [Int.fdiv_eq_ediv_of_nonneg i (by omega)]; exact q) (.inl (PyProof.noPylong_small (by omega)))
/-- % by a positive divisor of any size -/
theorem op_mod : OpR X (binaryOp .Mod) (rI (fun _ j => 0 < j) fun i j => .int (i % j)) := opI fun i j _ _ _ _ _ hc q => by
  have h1 : (0 : Int) < j := hc
  exact mod_int' (by omega) (by rw [Int.fmod_eq_emod_of_nonneg i (by omega)]; exact q)
theorem op_xor : OpR X (binaryOp .BitXor) (rI0 fun i j => .int (Builtin.bitXor i j)) := opI0 fun _ _ _ _ _ _ _ q => xor_int q



/-! ### bools among ints: n += (a < b) -/
end

/-! ### comparisons -/
/-- the scalars that == tells apart as data does -/
def scal : V → V → Bool
  | .non, .non => true | .non, .int _ => true | .int _, .non => true | .non, .bl _ => true | .bl _, .non => true | .non, .str _ => true | .str _, .non => true
  | .int _, .int _ => true | .bl _, .bl _ => true | .str _, .str _ => true | .byt _, .byt _ => true
  | .int _, .str _ => true | .str _, .int _ => true | .bl _, .str _ => true | .str _, .bl _ => true
  | _, _ => false
def rEq : R2 := fun x y H Q => scal x y = true ∧ Q (.bl (decide (x = y))) H
def rNe : R2 := fun x y H Q => scal x y = true ∧ Q (.bl (!decide (x = y))) H

theorem dec_int {i j : Int} : decide (V.int i = V.int j) = (i == j) := by
  rw [Bool.eq_iff_iff]
  simp
theorem dec_bl {i j : Bool} : decide (V.bl i = V.bl j) = (i == j) := by
  rw [Bool.eq_iff_iff]
  simp
theorem dec_str {i j : Str} : decide (V.str i = V.str j) = (i == j) := by
  rw [Bool.eq_iff_iff]
  simp
theorem dec_byt {i j : Array UInt8} : decide (V.byt i = V.byt j) = (i.toList == j.toList) := by
  rw [Bool.eq_iff_iff]
  cases i
  cases j
  simp

section
variable {X : Cx} {a b c : Expr} {ta tb tc : TE} {pos : Pos}
theorem fin_bl {pins : List (Addr × Obj)} {σ : St} {H : Hp} {s : Shared} {Q : VK} {k k' : Bool} (I : Inv X pins σ H s) (q : Q (.bl k) H) (e : k = k') : EP X pins σ Q (.bool k') s := by
  subst e
  exact ⟨.bl k, H, I, rfl, q⟩
theorem op_eq : OpR X (compareOp .Eq) rEq := by
  intro pins s σ H x y v u Q I rx ry h
  obtain ⟨hs, q⟩ := h
  cases x with
  | non =>
    cases rx
    cases y with
    | non => cases ry; exact PySem.EqNone.eq_none_none (fin_bl I q (by simp))
    | bl j => cases ry; exact PySem.EqNone.eq_none_bool (fin_bl I q (by simp))
    | int j => obtain ⟨t', rfl⟩ := ry; exact PySem.EqNone.eq_none_int (fin_bl I q (by simp))
    | str j => obtain ⟨t', rfl⟩ := ry; exact PySem.EqNone.eq_none_str (fin_bl I q (by simp))
    | _ => exact absurd (show false = true from hs) Bool.false_ne_true
  | bl i =>
    cases rx
    cases y with
    | non => cases ry; exact PySem.EqNone.eq_bool_none (fin_bl I q (by simp))
    | bl j => cases ry; exact eq_bool (fin_bl I q dec_bl)
    | str j => obtain ⟨t', rfl⟩ := ry; exact PySem.EqMixed.eq_bool_str (fin_bl I q (by simp))
    | _ => exact absurd (show false = true from hs) Bool.false_ne_true
  | int i =>
    obtain ⟨t, rfl⟩ := rx
    cases y with
    | non => cases ry; exact PySem.EqNone.eq_int_none (fin_bl I q (by simp))
    | int j => obtain ⟨t', rfl⟩ := ry; exact eq_int (fin_bl I q dec_int)
    | str j => obtain ⟨t', rfl⟩ := ry; exact PySem.EqMixed.eq_int_str (fin_bl I q (by simp))
    | _ => exact absurd (show false = true from hs) Bool.false_ne_true
  | str i =>
    obtain ⟨t, rfl⟩ := rx
    cases y with
    | non => cases ry; exact PySem.EqNone.eq_str_none (fin_bl I q (by simp))
    | bl j => cases ry; exact PySem.EqMixed.eq_str_bool (fin_bl I q (by simp))
    | int j => obtain ⟨t', rfl⟩ := ry; exact PySem.EqMixed.eq_str_int (fin_bl I q (by simp))
    | str j => obtain ⟨t', rfl⟩ := ry; exact eq_str (fin_bl I q dec_str)
    | _ => exact absurd (show false = true from hs) Bool.false_ne_true
  | byt i =>
    obtain ⟨t, rfl⟩ := rx
    cases y with
    | byt j => obtain ⟨t', rfl⟩ := ry; exact PySem.W.eq_bytes (fin_bl I q dec_byt)
    | _ => exact absurd (show false = true from hs) Bool.false_ne_true
  | _ => cases y <;> exact absurd (show false = true from hs) Bool.false_ne_true
theorem op_ne : OpR X (compareOp .NotEq) rNe := by
  intro pins s σ H x y v u Q I rx ry h
  obtain ⟨hs, q⟩ := h
  cases x with
  | non =>
    cases rx
    cases y with
    | non => cases ry; exact PySem.EqNone.ne_none_none (fin_bl I q (by simp))
    | bl j => cases ry; exact PySem.EqNone.ne_none_bool (fin_bl I q (by simp))
    | int j => obtain ⟨t', rfl⟩ := ry; exact PySem.EqNone.ne_none_int (fin_bl I q (by simp))
    | str j => obtain ⟨t', rfl⟩ := ry; exact PySem.EqNone.ne_none_str (fin_bl I q (by simp))
    | _ => exact absurd (show false = true from hs) Bool.false_ne_true
  | bl i =>
    cases rx
    cases y with
    | non => cases ry; exact PySem.EqNone.ne_bool_none (fin_bl I q (by simp))
    | bl j => cases ry; exact ne_bool (fin_bl I q (congrArg not dec_bl))
    | str j => obtain ⟨t', rfl⟩ := ry; exact PySem.EqMixed.ne_bool_str (fin_bl I q (by simp))
    | _ => exact absurd (show false = true from hs) Bool.false_ne_true
  | int i =>
    obtain ⟨t, rfl⟩ := rx
    cases y with
    | non => cases ry; exact PySem.EqNone.ne_int_none (fin_bl I q (by simp))
    | int j => obtain ⟨t', rfl⟩ := ry; exact ne_int (fin_bl I q (congrArg not dec_int))
    | str j => obtain ⟨t', rfl⟩ := ry; exact PySem.EqMixed.ne_int_str (fin_bl I q (by simp))
    | _ => exact absurd (show false = true from hs) Bool.false_ne_true
  | str i =>
    obtain ⟨t, rfl⟩ := rx
    cases y with
    | non => cases ry; exact PySem.EqNone.ne_str_none (fin_bl I q (by simp))
    | bl j => cases ry; exact PySem.EqMixed.ne_str_bool (fin_bl I q (by simp))
    | int j => obtain ⟨t', rfl⟩ := ry; exact PySem.EqMixed.ne_str_int (fin_bl I q (by simp))
    | str j => obtain ⟨t', rfl⟩ := ry; exact ne_str (fin_bl I q (congrArg not dec_str))
    | _ => exact absurd (show false = true from hs) Bool.false_ne_true
  | byt i =>
    obtain ⟨t, rfl⟩ := rx
    cases y with
    | byt j => obtain ⟨t', rfl⟩ := ry; exact PySem.W.ne_bytes (fin_bl I q (congrArg not dec_byt))
    | _ => exact absurd (show false = true from hs) Bool.false_ne_true
  | _ => cases y <;> exact absurd (show false = true from hs) Bool.false_ne_true

theorem op_lt : OpR X (compareOp .Lt) (rI0 fun i j => .bl (decide (i < j))) := opB0 fun _ _ _ _ _ _ _ q => lt_int q
theorem op_gt : OpR X (compareOp .Gt) (rI0 fun i j => .bl (decide (j < i))) := opB0 fun _ _ _ _ _ _ _ q => gt_int q

theorem op_notN : OpR X (compareOp .IsNot) (fun x y H Q => y = .non ∧ Q (.bl (!decide (x = .non))) H) := by
  intro pins s σ H x y v u Q I rx ry h
  obtain ⟨rfl, q⟩ := h
  cases ry
  refine isnot_none_gen (fin_bl I q ?_)
  cases x <;> first
    | (cases rx; rfl)
    | (obtain ⟨t, rfl⟩ := rx; rfl)



theorem nomark (b : Expr) {op : CmpOp} (h : op ≠ .In := by decide) (h2 : op ≠ .NotIn := by decide) : behindInMarks op b = false := by
  have e1 : (op == CmpOp.In) = false := by cases op <;> first | rfl | exact absurd rfl h
  have e2 : (op == CmpOp.NotIn) = false := by cases op <;> first | rfl | exact absurd rfl h2
  cases b <;> simp [behindInMarks, e1, e2]
/-- a comparison as a value; hm: nomark b, or (for in, not in) by with_unfolding_all rfl -/
theorem pe_cmpR {op : CmpOp} {r : R2} (ho : OpR X (compareOp op) r) (ha : PE X a ta) (hb : PE X b tb) (hm : behindInMarks op b = false) : PE X (.Compare a [op] [b] pos) (tOp r ta tb) := by
  intro pins s σ H Q I h
  exact wpAny_Compare1 (binT ha hb I h fun v u s2 x y H2 I2 rx ry q => ho pins s2 σ H2 x y v u Q I2 rx ry q) hm
/-- a reading of a value as a test -/
def tTest (t : TE) : TT := fun σ H Q => t σ H fun x H' => ∃ k, x = .bl k ∧ Q k H'
theorem pt_cmpR {op : CmpOp} {r : R2} (ho : OpR X (compareOp op) r) (ha : PE X a ta) (hb : PE X b tb) (hm : behindInMarks op b = false) : PT X (.Compare a [op] [b] pos) (tTest (tOp r ta tb)) := by
  intro pins s σ H Q I h
  refine wpAny_isTrue_Compare1 (thn (ha pins s σ H _ I h) fun v s1 ⟨x, H1, I1, r1, q1⟩ => thn (hb pins s1 σ H1 _ I1 q1) fun u s2 ⟨y, H2, I2, r2, q2⟩ =>
    thn (ho pins s2 σ H2 x y v u _ I2 r1 r2 q2) fun c s3 ⟨z, H3, I3, r3, k, e, q3⟩ => ?_) hm
  subst e
  cases r3
  exact wpAny_truthy_bool ⟨H3, I3, q3⟩
/-- a op1 b op2 c -/
def tChain (r r' : R2) (ta tb tc : TE) : TE := fun σ H Q => ta σ H fun x H1 => tb σ H1 fun y H2 => r x y H2 fun z H3 => ∃ k, z = .bl k ∧
  (if k = true then tc σ H3 fun w' H4 => r' y w' H4 Q else Q (.bl false) H3)

/-! ### truth -/
theorem line63 : (sizeLine : Nat) < 2 ^ 63 := by rw [sizeLine_eq]; decide

/-! ### strs and bytes -/


/-! ### scalar builtins, by CallR -/
theorem vals1 {x : V} {us : List Value} (r : Vals [x] us) : ∃ u, us = [u] ∧ RelV x u := by
  cases r with
  | cons r1 r2 => cases r2; exact ⟨_, rfl, r1⟩
theorem vals2 {x y : V} {us : List Value} (r : Vals [x, y] us) : ∃ u w', us = [u, w'] ∧ RelV x u ∧ RelV y w' := by
  cases r with
  | cons r1 r2 =>
    cases r2 with
    | cons r3 r4 => cases r4; exact ⟨_, _, rfl, r1, r3⟩
theorem call_min2 (hc : X.calm = true) : CallR X (.builtin "min") (fun xs H Q => ∃ i j, xs = [.int i, .int j] ∧ Q (.int (if j < i then j else i)) H) := by
  intro pins s σ H xs us Q I r h
  obtain ⟨i, j, rfl, q⟩ := h
  obtain ⟨u, w', rfl, ⟨t, rfl⟩, ⟨t', rfl⟩⟩ := vals2 r
  refine min_two_ints (I.ok.hd hc) fun h' tk k => ⟨_, H, I.kept k, ?_, q⟩
  by_cases hj : j < i
  · rw [if_pos hj, if_pos hj]; exact ⟨_, rfl⟩
  · rw [if_neg hj, if_neg hj]; exact ⟨_, rfl⟩
end
end L2

namespace L2
open PySem PySem.Spec PyProof.Rows

/-! ### an instance, its attributes a map -/



section
variable {prog : Program} {w : World} {A : Around} {E : Value → Shared → Prop} {s : Shared} {K : PySem.W.Frag} {x dx C f : Addr} {mA : Str → Option Value} {name : Str} {v : Value}





end

/-! ### the attributes as a list of pairs -/

theorem RelO.some_of {v : V} {o : Option Value} (r : RelO (some v) o) : ∃ u, o = some u ∧ RelV v u := by
  cases o with
  | none => exact (show False from r).elim
  | some u => exact ⟨u, rfl, r⟩

section
variable {P : Program} {w : World} {H H' : Hp} {h h' : Heap} {a C dx : Addr} {fs fs' : List (Str × V)}
end

/-! ### what of the text a class must have -/

section
variable {X : Cx} {pins : List (Addr × Obj)} {σ : St} {H : Hp} {s : Shared} {a C dx : Addr} {fs : List (Str × V)} {f : Str} {v : V} {A : Around} {E : Value → Shared → Prop}






end

/-! ### readings and rules -/

section
variable {X : Cx} {o e value : Expr} {f : Str} {pos pos' tpos : Pos} {ta tv : TE}

end

/-! ### isinstance -/
section
variable {X : Cx} {pins : List (Addr × Obj)} {σ : St} {H : Hp} {s : Shared} {A : Around} {E : Value → Shared → Prop} {Q : Value → Shared → Prop} {c : Value} {b : Bool}
end
end L2

namespace L2
open PySem PySem.Spec PyProof.Rows

/-! ### room -/
structure Room (k : Nat) (A : Around) : Prop where
  hd : A.handled = none
  dp : A.depth + 3 * k + 5 < recursionLimit
  un : A.units + 16 * k + 200 < cLine
theorem Room.mono {j k : Nat} {A : Around} (r : Room k A) (h : j ≤ k) : Room j A := ⟨r.hd, by have := r.dp; omega, by have := r.un; omega⟩
theorem Room.deeper {k : Nat} {A : Around} (r : Room (k + 1) A) (env : Env) : Room k (A.deeper env) :=
  ⟨r.hd, by have := r.dp; show A.depth + 1 + 3 * k + 5 < _; omega, by have := r.un; show A.units + 3 + 16 * k + 200 < _; omega⟩
theorem Room.depth {k : Nat} {A : Around} (r : Room k A) : A.depth < recursionLimit := by have := r.dp; omega
theorem Room.units {k : Nat} {A : Around} (r : Room k A) : A.units + 64 < cLine := by have := r.un; omega

/-! ### argument lists and displays -/
def tNil : TA := fun _ H Q => Q [] H
def tCons (ta : TE) (tr : TA) : TA := fun σ H Q => ta σ H fun x H1 => tr σ H1 fun xs H2 => Q (x :: xs) H2
section
variable {X : Cx} {e : Expr} {es : List Expr} {te : TE} {t : TA} {pos : Pos}
theorem pa_nil : PA X [] tNil := fun _ _ _ _ H Q I h => Calls.spliced_nil ⟨[], H, I, .nil, h⟩
theorem pa_cons (ha : PE X e te) (hr : PA X es t) (hs : starEach (e :: es) X.env = (false, eval e X.env) :: starEach es X.env := by rfl) : PA X (e :: es) (tCons te t) := by
  intro pos pins s σ H Q I h
  rw [hs]
  show wpAny _ _ (spliced ((false, eval e X.env) :: backTo pos (starEach es X.env))) _ _ s
  refine Calls.spliced_cons (thn (ha pins s σ H _ I h) fun u s1 ⟨x, H1, I1, r1, q1⟩ => ?_)
  exact thn (hr pos pins s1 σ H1 _ I1 q1) fun us s2 ⟨xs, H2, I2, r2, q2⟩ => ⟨x :: xs, H2, I2, .cons r1 r2, q2⟩

/-- a tuple, a list of written items -/
def tTup (t : TA) : TE := fun σ H Q => t σ H fun xs H1 => xs.length ≤ sizeLine ∧ ∀ p, H1 p = none → Q (.ref p) (upd H1 p (.tup xs))
def tLst (t : TA) : TE := fun σ H Q => t σ H fun xs H1 => xs.length ≤ sizeLine ∧ ∀ p, H1 p = none → Q (.ref p) (upd H1 p (.lst xs))
theorem pe_tup {x1} (h : PA X es t) : PE X (.Tuple es x1 pos) (tTup t) := by
  intro pins s σ H Q I hq
  refine wpAny_Tuple_spliced (thn (h pos pins s σ H _ I hq) fun us s1 ⟨xs, H1, I1, r, z, q⟩ => ⟨by rw [← r.length]; exact z, ?_⟩)
  have hf : H1 s1.heap.objs.size = none := I1.hok.fresh (Nat.le_refl _)
  refine ⟨.ref s1.heap.objs.size, upd H1 s1.heap.objs.size (.tup xs), I1.laid (t' := s1.toks) (fun b u e => Heap.get?_push_of_some _ e) (Nat.le_refl _) ?_, rfl, q _ hf⟩
  exact ⟨z, us, r, ⟨_, Heap.get?_push_size _ rfl, rfl, _, rfl⟩⟩
theorem pe_lst (h : PA X es t) : PE X (.List es pos) (tLst t) := by
  intro pins s σ H Q I hq
  refine wpAny_List_spliced (thn (h pos pins s σ H _ I hq) fun us s1 ⟨xs, H1, I1, r, z, q⟩ => ⟨by rw [← r.length]; exact z, ?_⟩)
  have hf : H1 s1.heap.objs.size = none := I1.hok.fresh (Nat.le_refl _)
  refine ⟨.ref s1.heap.objs.size, upd H1 s1.heap.objs.size (.lst xs), I1.laid (t' := s1.toks) (fun b u e => Heap.get?_push_of_some _ e) (Nat.le_refl _) ?_, rfl, q _ hf⟩
  exact ⟨z, us, 0, r, Heap.get?_push_size _ rfl⟩
end

/-! ### what a def promises -/
/-- a def's promise: the bound arguments in the parameters' order, the heap, the wanted end, the wanted exception -/
abbrev Sp := List V → Hp → VK → XK → Prop
/-- how an exception lies behind a call (file 08 gives it): the callers' frames, abstract heap and state ahead of the call, the wish, the exception, the state -/
abbrev CXT := List Env → Hp → Shared → XK → Value → Shared → Prop

/-- the state at a call -/
structure Env0 (P : Program) (w : World) (K : PySem.W.Frag) (mg : Str → Option Value) (base : Heap) (A : Around) (outer : List Env) (s : Shared) (H : Hp) : Prop where
  frames : A.frames = some outer
  mod : Mod K mg base
  bs : ∀ b o, base.get? b = some o → s.heap.get? b = some o ∧ H b = none
  bsz : base.objs.size ≤ s.heap.objs.size
  funs : s.heap.FunFrames base outer
  frf : ∀ b ∈ frs outer, H b = none
  hok : HOk P w H s.heap
  bare : AllBare s.gens
/-- a call's end -/
def CE (outer : List Env) (P : Program) (w : World) (H : Hp) (s : Shared) (Q : VK) (u : Value) (s' : Shared) : Prop :=
  ∃ v H', s'.os = s.os ∧ AllBare s'.gens ∧ Un (frs outer) [] H H' s.heap s'.heap ∧ HOk P w H' s'.heap ∧ RelV v u ∧ Q v H'
def CR (CX : CXT) (outer : List Env) (P : Program) (w : World) (H : Hp) (s : Shared) (Q : VK) (E : XK) (r : Result) (s' : Shared) : Prop :=
  match r with
  | .ok (.ret u) => CE outer P w H s Q u s'
  | .ok _ => False
  | .error e => CX outer H s E e s'
structure FnOk (P : Program) (w : World) (K : PySem.W.Frag) (mg : Str → Option Value) (base : Heap) (CX : CXT) (k : Nat) (f : Addr) (fd : FuncData) (ps : List Str) (sp : Sp) : Prop where
  len : ∀ vs H Q E, sp vs H Q E → vs.length = ps.length
  run : ∀ (A : Around) (outer : List Env) (s : Shared) (H : Hp) (args : Args) (us : List Value) (vs : List V) (Q : VK) (E : XK), Room k A → Env0 P w K mg base A outer s H → BindsTo s fd args (ps.zip us) → Vals vs us → sp vs H Q E →
    codeAny (model P w) A (.call (.ref f) args) (CR CX outer P w H s Q E) s


section
variable {X : Cx} {pins : List (Addr × Obj)} {σ : St} {H : Hp} {s s' : Shared}
/-- from a body: what a callee wants -/
theorem Inv.env0 (I : Inv X pins σ H s) : Env0 X.prog X.w X.K X.mg X.base X.A X.stack s H :=
  ⟨I.ok.frames, I.ok.mod, I.bs, Nat.le_trans I.ok.bsz I.sz, I.stack, I.stkFree, I.hok, I.bare⟩
/-- behind a call -/
theorem Inv.after {Q : VK} {u : Value} (I : Inv X pins σ H s) (h : CE X.stack X.prog X.w H s Q u s') : EP X pins σ Q u s' := by
  obtain ⟨v, H', os, bare, un, hok, r, q⟩ := h
  obtain ⟨hh, g, d, t, os'⟩ := s'
  obtain rfl : os' = s.os := os
  exact ⟨v, H', I.call (h' := hh) (g' := g) (d' := d) (t' := t) (ch := []) un hok bare (fun b z => absurd z (by simp)), r, q⟩
end

/-! ### calls -/
/-- f(..): the written arguments, then the defaults dvs; E: what is wanted of an exception -/
def tCall (sp : Sp) (dvs : List V) (E : XK) (t : TA) : TE := fun σ H Q => t σ H fun vs H1 => sp (vs ++ dvs) H1 Q E

/-- how the parameters are bound: us the positional arguments, kw the keywords' values by name, ds the defaults that fill up -/
def Binds (K : PySem.W.Frag) (fd : FuncData) (ps : List Str) (ds : List Value) : Prop :=
  ∀ (s : Shared) (us : List Value), K.In s.heap → (us ++ ds).length = ps.length → BindsTo s fd ⟨us, []⟩ (ps.zip (us ++ ds))
/-- every parameter is given -/
theorem Binds.all {K : PySem.W.Frag} {fd : FuncData} {ps : List Str} (h : ∀ us : List Value, us.length = ps.length → bindArgs fd ⟨us, []⟩ = pure (ps.zip us)) : Binds K fd ps [] := fun s us _ hl => by
  rw [List.append_nil] at hl ⊢
  exact .of_eq (h us hl)

/-- an exception of a callee reaches what this body wants of exceptions -/
def Passes (CX : CXT) (X : Cx) (E : XK) : Prop := ∀ (pins : List (Addr × Obj)) (σ : St) (H : Hp) (s : Shared) (e : Value) (s' : Shared), Inv X pins σ H s → CX X.stack H s E e s' → X.xe e s'

section
variable {X : Cx} {CX : CXT} {k : Nat} {f C : Addr} {fd : FuncData} {ps : List Str} {sp : Sp} {dvs : List V} {ds : List Value} {E : XK} {x m : Str} {p pos apos : Pos} {e o : Expr} {es : List Expr} {ta : TE} {t : TA}

/-- the callee runs -/
theorem run_fn {pins : List (Addr × Obj)} {σ : St} {H : Hp} {s : Shared} {Q : VK} {us : List Value} {vs : List V} (F : FnOk X.prog X.w X.K X.mg X.base CX k f fd ps sp) (hr : Room k X.A) (hb : Binds X.K fd ps ds) (hd : Vals dvs ds) (hx : Passes CX X E)
    (I : Inv X pins σ H s) (r : Vals vs us) (h : sp (vs ++ dvs) H Q E) : wpAny (model X.prog X.w) X.A (call (.ref f) us) (EP X pins σ Q) X.xe s := by
  have r2 : Vals (vs ++ dvs) (us ++ ds) := r.append hd
  have hl : (us ++ ds).length = ps.length := by rw [← r2.length]; exact F.len _ _ _ _ h
  refine wpAny_call (codeAny_mono (F.run X.A X.stack s H ⟨us, []⟩ (us ++ ds) (vs ++ dvs) Q E hr I.env0 (hb s us I.kIn hl) r2 h) fun r s' hq => ?_)
  cases r with
  | error e => exact hx pins σ H s e s' I hq
  | ok fl =>
    cases fl with
    | ret u => exact I.after hq
    | next => exact False.elim hq
    | brk => exact False.elim hq
    | cont => exact False.elim hq

theorem pe_call (F : FnOk X.prog X.w X.K X.mg X.base CX k f fd ps sp) (hr : Room k X.A) (hg : Gl X x) (hm : X.mg x = some (.ref f)) (hk : PySem.W.keepIn X.K (.ref f) = true) (hb : Binds X.K fd ps ds) (hd : Vals dvs ds) (hx : Passes CX X E)
    (ha : PA X (e :: es) t) (hdb : (x == ("__debug__" : Str)) = false := by decide) (he : starEach (e :: es) X.env = (false, eval e X.env) :: starEach es X.env := by rfl) (hpl : (backTo pos (starEach es X.env)).any (·.1) = false := by rfl) :
    PE X (.Call (.Name x p) (e :: es) [] pos) (tCall sp dvs E t) := by
  intro pins s σ H Q I h
  refine wpAny_Call_Name_kw (ld_glob I hg hm ?_ hdb)
  refine PySem.W.callWith_K (h₀ := X.base) I.ok.mod.kin hk (thn (ha pos pins s σ H _ I h) fun us s1 ⟨vs, H1, I1, r, q⟩ => ⟨I1.kIn, ?_⟩) he hpl
  exact run_fn F hr hb hd hx I1 r q



end

/-! ### keywords -/
section
variable {X : Cx} {CX : CXT} {k : Nat} {f C : Addr} {fd : FuncData} {ps ks : List Str} {sp : Sp} {E : XK} {x m : Str} {p pos apos kpos : Pos} {e o : Expr} {es : List Expr} {kws : List Keyword} {te ta : TE} {t tk : TA} {nm : Option Str}

variable {g : List Value → List Value → List Value} {gV : List V → List V → List V}
end

/-! ### a def's body keeps its promise -/
/-- names: the parameters first -/
structure FnScope (N P : List Str) (sc : Scope) : Prop where
  kind : sc.kind = .function
  co : sc.isCoroutine = false
  gen : sc.isGenerator = false
  nd : N.Nodup
  pre : N.take P.length = P
  par : ∀ x ∈ P, sc.names.lookup x = some .local ∨ sc.names.lookup x = some .cell
  nofree : ∀ y ∈ sc.names, y.2 ≠ .free

theorem bindL_out {kindOf : Str → Option NameKind} {x : Str} : ∀ {binds : List (Str × Value)} {m : Str → Option Value}, (∀ v, (x, v) ∉ binds) → bindL kindOf binds m x = m x
  | [], _, _ => rfl
  | (n, v) :: r, m, h => by
    unfold bindL
    rw [bindL_out fun w hw => h w (List.mem_cons_of_mem _ hw)]
    split
    · have : x ≠ n := by rintro rfl; exact h v List.mem_cons_self
      simp [this]
    · rfl
theorem bindC_out {kindOf : Str → Option NameKind} {x : Str} : ∀ {binds : List (Str × Value)} {m : Str → Option Value}, (∀ v, (x, v) ∉ binds) → bindC kindOf binds m x = m x
  | [], _, _ => rfl
  | (n, v) :: r, m, h => by
    unfold bindC
    rw [bindC_out fun w hw => h w (List.mem_cons_of_mem _ hw)]
    split
    · rfl
    · have : x ≠ n := by rintro rfl; exact h v List.mem_cons_self
      simp [this]
theorem bindL_get {kindOf : Str → Option NameKind} {x : Str} {v : Value} : ∀ {P : List Str} {vs : List Value} {i : Nat} {m : Str → Option Value}, P.Nodup → P[i]? = some x → vs[i]? = some v → kindOf x = some .local →
    bindL kindOf (P.zip vs) m x = some v
  | [], _, _, _, _, h, _, _ => by simp at h
  | _ :: _, [], _, _, _, _, h, _ => by simp at h
  | p :: P, w :: vs, 0, m, nd, h1, h2, hk => by
    simp at h1 h2; subst h1; subst h2
    show bindL kindOf ((p, w) :: P.zip vs) m p = _
    unfold bindL
    rw [bindL_out fun v hv => (List.nodup_cons.mp nd).1 (List.of_mem_zip hv).1, if_pos hk]
    simp
  | p :: P, w :: vs, i + 1, m, nd, h1, h2, hk => by
    show bindL kindOf ((p, w) :: P.zip vs) m x = _
    unfold bindL
    exact bindL_get (i := i) (List.nodup_cons.mp nd).2 (by simpa using h1) (by simpa using h2) hk
theorem bindC_get {kindOf : Str → Option NameKind} {x : Str} {v : Value} : ∀ {P : List Str} {vs : List Value} {i : Nat} {m : Str → Option Value}, P.Nodup → P[i]? = some x → vs[i]? = some v → kindOf x ≠ some .local →
    bindC kindOf (P.zip vs) m x = some v
  | [], _, _, _, _, h, _, _ => by simp at h
  | _ :: _, [], _, _, _, _, h, _ => by simp at h
  | p :: P, w :: vs, 0, m, nd, h1, h2, hk => by
    simp at h1 h2; subst h1; subst h2
    show bindC kindOf ((p, w) :: P.zip vs) m p = _
    unfold bindC
    rw [bindC_out fun v hv => (List.nodup_cons.mp nd).1 (List.of_mem_zip hv).1, if_neg hk]
    simp
  | p :: P, w :: vs, i + 1, m, nd, h1, h2, hk => by
    show bindC kindOf ((p, w) :: P.zip vs) m x = _
    unfold bindC
    exact bindC_get (i := i) (List.nodup_cons.mp nd).2 (by simpa using h1) (by simpa using h2) hk

/-- the names' values at the entry -/
def start (N : List Str) (vs : List V) : St := vs.map some ++ List.replicate (N.length - vs.length) none

/-- the context of a def's body, at its entry; an exception leaves the frame, then lies as CX says -/
def cxOf (CX : CXT) (P : Program) (w : World) (K : PySem.W.Frag) (mg : Str → Option Value) (base : Heap) (N : List Str) (qual : Str) (scope : Scope) (f : Addr) (cd : Value) (A : Around) (outer : List Env) (s : Shared) (H : Hp) (E : XK) : Cx where
  prog := P
  w := w
  K := K
  mg := mg
  base := base
  A := A.deeper (envOfC qual scope s.heap.objs.size f cd)
  N := N
  s_0 := s
  H_0 := H
  env := envOfC qual scope s.heap.objs.size f cd
  outer := outer
  stack := envOfC qual scope s.heap.objs.size f cd :: outer
  ex := []
  calm := true
  fn := fun _ => true
  pn := []
  xe := fun e s' => wpAny (model P w) (A.deeper (envOfC qual scope s.heap.objs.size f cd)) (leaving (envOfC qual scope s.heap.objs.size f cd) e) (fun _ s'' => CX outer H s E e s'') (fun e' s'' => CX outer H s E e' s'') s'

theorem cell_has {sc : Scope} {n : Nat} {x : Str} (h : sc.names.lookup x = some .cell) : ∃ c, (cellsFrom n sc.names []).lookup x = some c := by
  have q := PySem.W.cellsFrom_some sc.names n [] (.inl h)
  exact Option.isSome_iff_exists.mp q

theorem inv_start {CX : CXT} {P : Program} {w : World} {K : PySem.W.Frag} {mg : Str → Option Value} {base : Heap} {N ps : List Str} {qual : Str} {scope : Scope} {f : Addr} {cd : Value} {A : Around} {outer : List Env} {s s1 : Shared} {H : Hp} {E : XK} {us : List Value} {vs : List V}
    (S : FnScope N ps scope) (hd : A.handled = none) (e0 : Env0 P w K mg base A outer s H) (hl : vs.length = ps.length) (r : Vals vs us)
    (x : InCallC s s.heap.objs.size (bindL (envOfC qual scope s.heap.objs.size f cd).kindOf (ps.zip us) fun _ => none) (cellsFrom (s.heap.objs.size + 1) scope.names []) (bindC (envOfC qual scope s.heap.objs.size f cd).kindOf (ps.zip us) fun _ => none) s1) :
    Inv (cxOf CX P w K mg base N qual scope f cd A outer s H E) [] (start N vs) H s1 := by
  have hpl : ps.length ≤ N.length := by have := congrArg List.length S.pre; rw [List.length_take] at this; omega
  obtain ⟨h1, tk, rfl, hk⟩ := x.done
  have noA : ∀ b : Addr, b ∉ (cxOf CX P w K mg base N qual scope f cd A outer s H E).ex := fun b z => absurd (show b ∈ ([] : List Addr) from z) (by simp)
  refine ⟨⟨e0.mod, S.kind, rfl, rfl, Nat.le_refl _, fun y z c h1 h2 => ?_, fun y hy => ?_, fun y c _ h => ?_, fun _ => hd, Around.frames_deeper e0.frames, .inr ⟨rfl, rfl⟩, fun b z => absurd z (noA b), e0.bs, e0.bsz, fun b _ _ => noA b, fun b z => absurd z (noA b), e0.funs, e0.frf⟩,
    rfl, e0.bare, Un.kept hk, ⟨_, x.toInCall.ns, fun i y v h1 h2 h3 => ?_⟩, fun y c h => ⟨_, x.cell y c h⟩, e0.hok.fresh (Nat.le_refl _), fun y c h => ?_, fun p hp => absurd (show p ∈ ([] : List (Addr × Obj)) from hp) (by simp), e0.hok.kept hk, ?_⟩
  · exact name_of_addr x.apart (PySem.mem_of_lookup h1) (PySem.mem_of_lookup h2)
  · have hy : scope.names.lookup y = some .cell ∨ scope.names.lookup y = some .free := hy
    rcases hy with hy | hy
    · exact cell_has hy
    · exact absurd rfl (S.nofree _ (PySem.mem_of_lookup hy))
  · exact Nat.le_of_lt (x.above y c (PySem.mem_of_lookup h))
  · have hi : i < vs.length := by
      unfold start at h2
      by_cases hi : i < vs.length
      · exact hi
      · rw [List.getElem?_append_right (by simpa using hi)] at h2
        rw [List.getElem?_replicate] at h2
        split at h2 <;> cases h2
    have ha : vs[i]? = some v := by
      unfold start at h2
      rw [List.getElem?_append_left (by simpa using hi), List.getElem?_map] at h2
      cases e : vs[i]? with
      | none => rw [e] at h2; cases h2
      | some a => rw [e] at h2; cases h2; rfl
    obtain ⟨u, hu, rv⟩ := r.get ha
    have hp : ps[i]? = some y := by
      rw [← S.pre, List.getElem?_take_of_lt (by omega)]; exact h1
    have ndP : ps.Nodup := by rw [← S.pre]; exact S.nd.sublist (List.take_sublist _ _)
    refine ⟨u, rv, ?_⟩
    rcases S.par y (List.mem_of_getElem? hp) with k | k
    · exact .inl ⟨k, bindL_get ndP hp hu k⟩
    · obtain ⟨c, e⟩ := cell_has (n := s.heap.objs.size + 1) k
      refine .inr ⟨.inl k, c, e, ?_⟩
      have q := x.cell y c e
      rw [bindC_get ndP hp hu (by show scope.names.lookup y ≠ _; rw [k]; decide)] at q
      exact q
  · exact e0.hok.fresh (Nat.le_of_lt (x.above y c (PySem.mem_of_lookup h)))
  · unfold start
    show _ = N.length
    rw [List.length_append, List.length_map, List.length_replicate]
    omega

/-- THE RULE: a def (or a method) of the text, by its body. The body's reading t is chosen for each entry; it is run at the parameters' values -/
theorem fn_of {CX : CXT} {P : Program} {w : World} {K : PySem.W.Frag} {mg : Str → Option Value} {base : Heap} {k : Nat} {f : Addr} {name qual : Str} {params : Arguments} {body : List Stmt} {scope : Scope} {dV kV doc pm cdv ct oc : Value} {an od : Option Addr}
    {osl : Array (Option Value)} {N ps : List Str} {sp : Sp} (lk : K.lookup f = some ⟨oc, od, .func (PySem.W.fnOf name qual params body scope dV kV doc pm an cdv ct), osl⟩) (hcd : PySem.W.codeIn K cdv qual = true) (S : FnScope N ps scope)
    (len : ∀ vs H Q E, sp vs H Q E → vs.length = ps.length)
    (hbody : ∀ (A : Around) (outer : List Env) (s : Shared) (H : Hp) (vs : List V) (Q : VK) (E : XK), Room k (A.deeper (envOfC qual scope s.heap.objs.size f cdv)) → sp vs H Q E →
      ∃ t, PSs (cxOf CX P w K mg base N qual scope f cdv A outer s H E) body t ∧ t { nx := fun _ H' => Q .non H', rt := Q } (start N vs) H) :
    FnOk P w K mg base CX (k + 1) f (PySem.W.fnOf name qual params body scope dV kV doc pm an cdv ct) ps sp := by
  refine ⟨len, fun A outer s H args us vs Q E hr e0 hb r hsp => ?_⟩
  have hl := len _ _ _ _ hsp
  have KX : K.In s.heap := e0.mod.kin.keeps fun b o e => (e0.bs b o e).1
  have lim : s.heap.NoLimit := e0.mod.nolimit.keeps fun b o e => (e0.bs b o e).1
  have hkind : ∀ y ∈ ps.zip us, scope.names.lookup y.1 = some .local ∨ (scope.names.lookup y.1 = some .cell ∧ ((cellsFrom (s.heap.objs.size + 1) scope.names []).lookup y.1).isSome = true) := fun ⟨n, v⟩ hy => by
    rcases S.par n (List.of_mem_zip hy).1 with q | q
    · exact .inl q
    · exact .inr ⟨q, PySem.W.cellsFrom_some _ _ _ (.inl q)⟩
  refine codeAny_call_function hr.depth (KX _ _ lk) rfl S.co S.gen rfl (PySem.W.codeRec_of KX hcd) (hb _ _ _ _ ?_)
  refine wpAny_newFunctionEnv_cells S.kind hkind fun env he s1 x => ?_
  subst he
  refine ⟨lim.keeps x.toInCall.keep, codeAny_func ?_⟩
  obtain ⟨t, ht, hq⟩ := hbody A outer s H vs Q E (hr.deeper _) hsp
  have I : Inv (cxOf CX P w K mg base N qual scope f cdv A outer s H E) [] (start N vs) H s1 := inv_start S hr.hd e0 hl r x
  refine wpAny_mono (ht [] s1 (start N vs) H _ I hq) (fun fl s' hs => ?_) fun e s' hs => hs
  have fin : ∀ {σ' : St} {H' : Hp} {v : V} {u : Value}, Inv (cxOf CX P w K mg base N qual scope f cdv A outer s H E) [] σ' H' s' → RelV v u → Q v H' → CE outer P w H s Q u s' :=
    fun {σ' H' v u} J rv q => ⟨v, H', J.os, J.bare, J.base, J.hok, rv, q⟩
  cases fl with
  | ret u =>
    obtain ⟨v, σ', H', J, rv, q⟩ := hs
    exact fin J rv q
  | next =>
    obtain ⟨σ', H', J, q⟩ := hs
    exact fin (v := V.non) (u := Value.none) J rfl q
  | brk =>
    obtain ⟨_, _, _, q⟩ := hs
    exact False.elim q
  | cont =>
    obtain ⟨_, _, _, q⟩ := hs
    exact False.elim q
end L2

namespace L2
open PySem PySem.Spec PyProof.Rows
section
variable {X : Cx} {x : Str} {p pos : Pos} {e : Expr} {es : List Expr} {t : TA} {id T : String} {r : List V → Hp → VK → Prop}

def tCB (r : List V → Hp → VK → Prop) (t : TA) : TE := fun σ H Q => t σ H fun vs H1 => r vs H1 Q
/-- f(e, ..), f a built-in function -/
theorem pe_callB (hc : CallR X (.builtin id) r) (hg : Gl X x) (hm : X.mg x = none) (hv : bootBuiltins x = some (.builtin id)) (ha : PA X (e :: es) t) (hn : x ≠ "__name__" := by decide) (hdb : (x == ("__debug__" : Str)) = false := by decide)
    (he : starEach (e :: es) X.env = (false, eval e X.env) :: starEach es X.env := by rfl) (hpl : (backTo pos (starEach es X.env)).any (·.1) = false := by rfl) : PE X (.Call (.Name x p) (e :: es) [] pos) (tCB r t) := by
  intro pins s σ H Q I h
  refine wpAny_Call_Name_kw (ld_blt I hg hm hv ?_ hn hdb)
  exact PyProof.Rows.callWith_builtin1 (thn (ha pos pins s σ H _ I h) fun us s1 ⟨vs, H1, I1, r1, q1⟩ => hc pins s1 σ H1 vs us Q I1 r1 q1) he hpl
/-- T(e, ..), T a built-in type -/
theorem pe_callTy (hc : CallR X (.type T) r) (hg : Gl X x) (hm : X.mg x = none) (hv : bootBuiltins x = some (.type T)) (ha : PA X (e :: es) t) (hn : x ≠ "__name__" := by decide) (hdb : (x == ("__debug__" : Str)) = false := by decide)
    (he : starEach (e :: es) X.env = (false, eval e X.env) :: starEach es X.env := by rfl) (hpl : (backTo pos (starEach es X.env)).any (·.1) = false := by rfl) : PE X (.Call (.Name x p) (e :: es) [] pos) (tCB r t) := by
  intro pins s σ H Q I h
  refine wpAny_Call_Name_kw (ld_blt I hg hm hv ?_ hn hdb)
  exact PyProof.Rows.callWith_type1 (thn (ha pos pins s σ H _ I h) fun us s1 ⟨vs, H1, I1, r1, q1⟩ => hc pins s1 σ H1 vs us Q I1 r1 q1) he hpl
end
end L2

namespace HT
open PySem PyProof.Rows



section
open PySem.SeqAt
open PySem.AutoSeq1 (wpAny_loadPart')
open PySem.MeetsSeq PySem.MeetsSeq2 PySem.MeetsSeq3

end

section
variable {prog : Program} {w : World} {A : Around} {E : Value → Shared → Prop} {s : Shared}



/-! ### t[a:b], not the whole -/
/-- a slice's bound as a place among n (d where it is left out) -/
def sIx (n d : Nat) : Option Int → Nat
  | none => d
  | some v => if v < 0 then (v + (n : Int)).toNat else min v.toNat n
theorem sIx_none (n d : Nat) : sIx n d none = d := rfl
theorem sIx_nat (n d k : Nat) : sIx n d (some (k : Int)) = min k n := by
  show (if (k : Int) < 0 then ((k : Int) + (n : Int)).toNat else min (k : Int).toNat n) = min k n
  rw [if_neg (by omega), Int.toNat_natCast]

end
end HT

namespace L2
open PySem PySem.Spec PyProof.Rows

/-! ### the parts of a slice -/
abbrev TO := St → Hp → (Option Int → Hp → Prop) → Prop
/-- a slice's part (left out, or an int) -/
def PO (X : Cx) (e : Option Expr) (t : TO) : Prop :=
  ∀ (pins : List (Addr × Obj)) (s : Shared) (σ : St) (H : Hp) (Q : Option Int → Hp → Prop), Inv X pins σ H s → t σ H Q →
    wpAny (model X.prog X.w) X.A (evalPart e X.env) (fun u s' => ∃ o H', Inv X pins σ H' s' ∧ IsPart u o ∧ Q o H') X.xe s
def tNoPart : TO := fun _ H Q => Q none H
def tPart (t : TE) : TO := fun σ H Q => t σ H fun x H1 => ∃ i, x = .int i ∧ Q (some i) H1


section
variable {X : Cx} {e : Expr} {te : TE} {lo hi : Option Expr} {tl th : TO} {pos p2 : Pos}

theorem po_none : PO X none tNoPart := by
  intro pins s σ H Q I h
  rw [evalPart_none]
  exact wpAny_pure ⟨none, H, I, .none, h⟩
theorem po_some (h : PE X e te) : PO X (some e) (tPart te) := by
  intro pins s σ H Q I hw
  rw [evalPart_some]
  refine thn (h pins s σ H _ I hw) fun u s1 ⟨x, H1, I1, r1, q1⟩ => ?_
  obtain ⟨i, rfl, q⟩ := q1
  obtain ⟨t, rfl⟩ := r1
  exact ⟨some i, H1, I1, .int i t, q⟩

/-- what a slice of a value is, by values: the slice object stands at sl -/
def SlR (X : Cx) (r : V → Option Int → Option Int → Hp → VK → Prop) : Prop :=
  ∀ (pins : List (Addr × Obj)) (s : Shared) (σ : St) (H : Hp) (x : V) (v vl vu : Value) (lo hi : Option Int) (sl : Addr) (Q : VK), Inv X pins σ H s → RelV x v → s.heap.IsSliceOf sl vl vu .none → IsPart vl lo → IsPart vu hi → r x lo hi H Q →
    ∃ T id, typeLookup (.type T) "__getitem__" = pure (some (.builtin id)) ∧ s.TypeIs v T ∧ wpAny (model X.prog X.w) X.A (getItem v (.ref sl)) (EP X pins σ Q) X.xe s
def tSl (r : V → Option Int → Option Int → Hp → VK → Prop) (te : TE) (tl th : TO) : TE := fun σ H Q => te σ H fun x H1 => tl σ H1 fun l H2 => th σ H2 fun u H3 => r x l u H3 Q
/-- a[lo:hi], any a -/
theorem pe_slice {r : V → Option Int → Option Int → Hp → VK → Prop} (hr : SlR X r) (he : PE X e te) (hl : PO X lo tl) (hu : PO X hi th) : PE X (.Subscript e (.Slice lo hi none p2) pos) (tSl r te tl th) := by
  intro pins s σ H Q I h
  refine Subscript_ (thn (he pins s σ H _ I h) fun v s1 ⟨x, H1, I1, r1, q1⟩ => ?_)
  refine wpAny_Slice (thn (hl pins s1 σ H1 _ I1 q1) fun vl s2 ⟨l, H2, I2, pl, q2⟩ => thn (hu pins s2 σ H2 _ I2 q2) fun vu s3 ⟨u, H3, I3, pu, q3⟩ => ?_)
  rw [evalPart_none]
  refine wpAny_pure ?_
  have I4 : Inv X pins σ H3 { s3 with heap := s3.heap.push { cls := .type "slice", data := .fields #[vl, vu, .none] } } := I3.kept (t' := s3.toks) fun b ob q => Heap.get?_push_of_some _ q
  obtain ⟨T, id, hT, ht, hg⟩ := hr pins { s3 with heap := s3.heap.push { cls := .type "slice", data := .fields #[vl, vu, .none] } } σ H3 x v vl vu l u s3.heap.objs.size Q I4 r1 (Heap.IsSliceOf.new ..) pl pu q3
  show wpAny (model X.prog X.w) X.A (subscriptTail e (.Slice lo hi none p2) v (.ref s3.heap.objs.size)) (EP X pins σ Q) X.xe { s3 with heap := s3.heap.push { cls := .type "slice", data := .fields #[vl, vu, .none] } }
  exact tail_any (ops := [.ref s3.heap.objs.size, v]) ht hT hg (by with_unfolding_all rfl)

/-- the items of xs[lo:hi] -/
def cutV (xs : List V) (lo hi : Option Int) : List V := (xs.drop (HT.sIx xs.length 0 lo)).take (HT.sIx xs.length xs.length hi - HT.sIx xs.length 0 lo)
theorem cutV_length (xs : List V) (lo hi : Option Int) : (cutV xs lo hi).length ≤ xs.length := by
  unfold cutV
  rw [List.length_take, List.length_drop]
  omega

/-! ### t < u, t + u -/
end
end L2

namespace L2
open PySem PySem.Spec PyProof.Rows

/-! ### places -/
/-- the place that an index of any sign means -/
def ixN (n : Nat) (i : Int) : Option Nat := if 0 ≤ i then (if i < n then some i.toNat else none) else if -(n : Int) ≤ i then some (i + n).toNat else none
def atI {α : Type} (xs : List α) (i : Int) : Option α := (ixN xs.length i).bind fun j => xs[j]?
theorem ixN_seq {n : Nat} {i : Int} {j : Nat} (h : ixN n i = some j) : seqIndex? i n = some j ∧ j < n ∧ -(n : Int) ≤ i ∧ i < n := by
  unfold ixN at h
  by_cases h0 : 0 ≤ i
  · rw [if_pos h0] at h
    by_cases h1 : i < n
    · rw [if_pos h1] at h
      have e : i.toNat = j := Option.some.inj h
      exact ⟨by rw [seqIndex_of h0 h1, e], by omega, by omega, h1⟩
    · rw [if_neg h1] at h; cases h
  · rw [if_neg h0] at h
    by_cases h1 : -(n : Int) ≤ i
    · rw [if_pos h1] at h
      have e : (i + n).toNat = j := Option.some.inj h
      exact ⟨by rw [seqIndex_neg (by omega) h1, e], by omega, h1, by omega⟩
    · rw [if_neg h1] at h; cases h
theorem atI_get {α : Type} {xs : List α} {i : Int} {v : α} (h : atI xs i = some v) : ∃ j, seqIndex? i xs.length = some j ∧ xs[j]? = some v ∧ j < xs.length ∧ -(xs.length : Int) ≤ i ∧ i < xs.length := by
  unfold atI at h
  cases e : ixN xs.length i with
  | none => rw [e] at h; cases h
  | some j =>
    rw [e] at h
    obtain ⟨h1, h2, h3, h4⟩ := ixN_seq e
    exact ⟨j, h1, h, h2, h3, h4⟩
theorem atI_nat {α : Type} {xs : List α} {j : Nat} {v : α} (h : xs[j]? = some v) : atI xs (j : Int) = some v := by
  have hj : j < xs.length := (List.getElem?_eq_some_iff.mp h).1
  have e : ixN xs.length (j : Int) = some j := by
    unfold ixN
    rw [if_pos (by omega), if_pos (by omega)]; simp
  unfold atI; rw [e]; exact h

/-! ### what may be subscripted -/
/-- what stands as an index of a plain subscript -/
def PlainIx (b : Expr) : Prop := ∀ o i, subscripted b false o i = operate [o, i] (getItem o i)
/-- a subscript by values -/
def IxR (X : Cx) (r : R2) : Prop :=
  ∀ (value slice : Expr) (pins : List (Addr × Obj)) (s : Shared) (σ : St) (H : Hp) (x y : V) (v u : Value) (Q : VK), Inv X pins σ H s → RelV x v → RelV y u → r x y H Q →
    subscripted slice false v u = operate [v, u] (getItem v u) → wpAny (model X.prog X.w) X.A (subscriptTail value slice v u) (EP X pins σ Q) X.xe s
/-- a call of a builtin's method by values: the receiver, the arguments -/
def MtR (X : Cx) (id : String) (r : V → List V → Hp → VK → Prop) : Prop :=
  ∀ (pins : List (Addr × Obj)) (s : Shared) (σ : St) (H : Hp) (x : V) (xs : List V) (v : Value) (us : List Value) (Q : VK), Inv X pins σ H s → RelV x v → Vals xs us → r x xs H Q →
    wpAny (model X.prog X.w) X.A (call (.builtin id) (v :: us)) (EP X pins σ Q) X.xe s
section
variable {X : Cx} {a b : Expr} {ta tb : TE} {pos : Pos}
/-- a[b] -/
theorem pe_ix {r : R2} (hr : IxR X r) (ha : PE X a ta) (hb : PE X b tb) (hs : PlainIx b) : PE X (.Subscript a b pos) (tOp r ta tb) := by
  intro pins s σ H Q I h
  exact Subscript_ (binT ha hb I h fun v u s2 x y H2 I2 rx ry q => hr a b pins s2 σ H2 x y v u Q I2 rx ry q (hs _ _))

def rIxL (K : PySem.W.Frag) : R2 := fun x y H Q => ∃ p xs i v, x = .ref p ∧ y = .int i ∧ SqL K H p xs ∧ atI xs i = some v ∧ Q v H
def rIxT (K : PySem.W.Frag) : R2 := fun x y H Q => ∃ p xs i v, x = .ref p ∧ y = .int i ∧ SqT K H p xs ∧ atI xs i = some v ∧ Q v H
theorem ix_list : IxR X (rIxL X.K) := by
  intro value slice pins s σ H x y v u Q I rx ry h hs
  obtain ⟨p, xs, i, z, rfl, rfl, hq, he, q⟩ := h
  cases rx
  obtain ⟨t, rfl⟩ := ry
  obtain ⟨its, r, pl, hz⟩ := I.list hq
  obtain ⟨j, h1, h2, h3, h4, h5⟩ := atI_get he
  obtain ⟨w, ew, rw'⟩ := r.get h2
  have hl := r.length
  have hn := line63
  have fin : EP X pins σ Q w s := ⟨z, H, I, rw', q⟩
  by_cases h0 : 0 ≤ i
  · have hj : i.toNat = j := by
      rw [seqIndex_of h0 h5] at h1
      exact Option.some.inj h1
    exact item_listR pl.isList h0 (by omega) (by rw [hj]; simpa using ew) fin hs
  · have hj : (i + (its.toArray.size : Int)).toNat = j := by
      rw [seqIndex_neg (by omega) h4] at h1
      rw [List.size_toArray, ← hl]
      exact Option.some.inj h1
    exact subscriptTail_builtinR (x := w) pl.isList.typeIs slot_list_getitem.lookup
      (wpAny_getItem_list_neg (Q := fun r s' => r = w ∧ EP X pins σ Q r s') pl.isList (by omega) (by rw [List.size_toArray] <;> omega) (by omega) (by rw [hj]; simpa using ew) ⟨rfl, fin⟩) hs
theorem ix_tup : IxR X (rIxT X.K) := by
  intro value slice pins s σ H x y v u Q I rx ry h hs
  obtain ⟨p, xs, i, z, rfl, rfl, hq, he, q⟩ := h
  cases rx
  obtain ⟨t, rfl⟩ := ry
  obtain ⟨its, r, pl, hz⟩ := I.tuple hq
  obtain ⟨j, h1, h2, h3, h4, h5⟩ := atI_get he
  obtain ⟨w, ew, rw'⟩ := r.get h2
  have hl := r.length
  have hn := line63
  have fin : EP X pins σ Q w s := ⟨z, H, I, rw', q⟩
  exact subscriptTail_builtinR (x := w) pl.typeIs slot_tuple_getitem.lookup
    (getItem_tuple (j := j) (Q := fun r s' => r = w ∧ EP X pins σ Q r s') pl (by omega) (by omega) (by rw [List.size_toArray, ← hl]; exact h1) (by simpa using ew) ⟨rfl, fin⟩) hs

/-! ### xs[i] = v, any sign -/
/-- the list's object behind a store -/
theorem mapSeq_set (its : List Value) (n j : Nat) (u : Value) : Obj.mapSeq (·.setIfInBounds j u) { cls := .type "list", data := .seq its.toArray n } = { cls := .type "list", data := .seq (its.set j u).toArray n } := by
  simp [Obj.mapSeq]
theorem Inv.lst {pins : List (Addr × Obj)} {σ : St} {H : Hp} {s : Shared} {p : Addr} {xs : List V} (I : Inv X pins σ H s) (h : H p = some (.lst xs)) :
    ∃ (its : List Value) (n : Nat), Vals xs its ∧ s.heap.get? p = some { cls := .type "list", data := .seq its.toArray n } ∧ xs.length ≤ sizeLine := by
  obtain ⟨z, its, n, r, e⟩ := I.hok p _ h
  exact ⟨its, n, r, e, z⟩
/-- the list at p is written by an update of its object -/
theorem Inv.lstUpd {pins : List (Addr × Obj)} {σ : St} {H : Hp} {s : Shared} {p : Addr} {xs ys : List V} {its its' : List Value} {n n' : Nat} {f : Obj → Obj} (I : Inv X pins σ H s) (h : H p = some (.lst xs))
    (ho : s.heap.get? p = some { cls := .type "list", data := .seq its.toArray n }) (hf : f { cls := .type "list", data := .seq its.toArray n } = { cls := .type "list", data := .seq its'.toArray n' }) (r : Vals ys its') (hz : ys.length ≤ sizeLine) (t : Nat) :
    Inv X pins σ (upd H p (.lst ys)) { s with heap := s.heap.update p f, toks := t } := by
  have e : (s.heap.update p f).get? p = some { cls := .type "list", data := .seq its'.toArray n' } := by
    rw [Heap.get?_update_self f ho (by rw [hf] <;> rfl), hf]
  refine I.write (x := p) (e := p) (by rw [h]; trivial) (.inl rfl) (fun b u hb q => (Heap.get?_update_other _ _ (Ne.symm hb)).trans q) ⟨_, e⟩ ?_
  exact ⟨hz, its', n', r, e⟩
def rSetL : V → V → V → Hp → (Hp → Prop) → Prop := fun o i v H Q => ∃ p xs k j, o = .ref p ∧ i = .int k ∧ H p = some (.lst xs) ∧ ixN xs.length k = some j ∧ Q (upd H p (.lst (xs.set j v)))
theorem set_list : PSet X rSetL := by
  intro pins s σ H o i v ov iv u Q I ro ri rv h
  obtain ⟨p, xs, k, j, rfl, rfl, hp, hj, q⟩ := h
  cases ro
  obtain ⟨t, rfl⟩ := ri
  obtain ⟨its, n, r, ho, hz⟩ := I.lst hp
  obtain ⟨h1, h2, h3, h4⟩ := ixN_seq hj
  have hl := r.length
  have hn := line63
  have I' : Inv X pins σ (upd H p (.lst (xs.set j v))) { s with heap := s.heap.update p (Obj.mapSeq (·.setIfInBounds j u)) } :=
    I.lstUpd hp ho (mapSeq_set its n j u) (r.set rv j) (by rw [List.length_set]; exact hz) s.toks
  by_cases h0 : 0 ≤ k
  · have hk : k.toNat = j := by
      rw [seqIndex_of h0 h4] at h1
      exact Option.some.inj h1
    exact PySem.W.ki_setAt ho h0 (by omega) (by rw [List.size_toArray, ← hl]; exact h4) (by rw [hk]; exact ⟨_, I', q⟩)
  · have hk : (k + (its.toArray.size : Int)).toNat = j := by
      rw [seqIndex_neg (by omega) h3] at h1
      rw [List.size_toArray, ← hl]
      exact Option.some.inj h1
    exact PySem.W.ki_setBack ho (by omega) (by rw [List.size_toArray, ← hl]; exact h3) (by omega) (by rw [hk]; exact ⟨_, I', q⟩)

/-! ### slices -/
theorem slice_bounds (lo hi : Option Int) (n : Nat) : (sliceBounds lo hi none n).1 = ((HT.sIx n 0 lo : Nat) : Int) ∧ (sliceBounds lo hi none n).2.1 = ((HT.sIx n n hi : Nat) : Int) ∧ (sliceBounds lo hi none n).2.2 = 1 := by
  refine ⟨?_, ?_, rfl⟩
  · cases lo with
    | none => simp [sliceBounds, HT.sIx]
    | some i =>
      simp only [sliceBounds, HT.sIx, Option.getD_none, show (1 : Int) > 0 by decide, if_true]
      by_cases h : i < 0
      · simp only [h, if_true] <;> omega
      · simp only [h, if_false] <;> omega
  · cases hi with
    | none => simp [sliceBounds, HT.sIx]
    | some i =>
      simp only [sliceBounds, HT.sIx, Option.getD_none, show (1 : Int) > 0 by decide, if_true]
      by_cases h : i < 0
      · simp only [h, if_true] <;> omega
      · simp only [h, if_false] <;> omega
theorem slicePick_cut (its : List Value) (lo hi : Option Int) : slicePick its.toArray lo hi none = ((its.drop (HT.sIx its.length 0 lo)).take (HT.sIx its.length its.length hi - HT.sIx its.length 0 lo)).toArray := by
  obtain ⟨h1, h2, h3⟩ := slice_bounds lo hi its.toArray.size
  unfold slicePick
  rw [h1, h2, h3]
  simp only [sliceRange_one, pick_run, List.size_toArray] <;> rfl
/-- xs[lo:hi] of a list: a new list -/
def rSlL (K : PySem.W.Frag) : V → Option Int → Option Int → Hp → VK → Prop := fun x lo hi H Q => ∃ a xs, x = .ref a ∧ SqL K H a xs ∧ ∀ p, H p = none → Q (.ref p) (upd H p (.lst (cutV xs lo hi)))
theorem sl_list : SlR X (rSlL X.K) := by
  intro pins s σ H x v vl vu lo hi sl Q I rx hs pl pu h
  obtain ⟨a, xs, rfl, hx, q⟩ := h
  cases rx
  obtain ⟨its, r, ht, hz⟩ := I.list hx
  have hlen := r.length
  refine ⟨"list", _, slot_list_getitem.lookup, ht.isList.typeIs, ?_⟩
  refine wpAny_getItem_list_slice ht.isList hs pl pu .none (by simp) ?_ (by rw [List.size_toArray] <;> omega)
  rw [slicePick_cut, ← hlen]
  refine ⟨.ref s.heap.objs.size, _, I.laid (t' := s.toks) (o := .lst (cutV xs lo hi)) (fun b ob q => Heap.get?_push_of_some _ q) (Nat.le_refl _) ?_, rfl, q _ (I.hok.fresh (Nat.le_refl _))⟩
  exact ⟨Nat.le_trans (cutV_length xs lo hi) hz, _, 0, (r.drop (HT.sIx xs.length 0 lo)).take (HT.sIx xs.length xs.length hi - HT.sIx xs.length 0 lo), Heap.get?_push_size _ rfl⟩

/-! ### in, not in: flat items -/

/-! ### len, list(x), tuple(x) of any list or tuple that is read -/
theorem call_len_seq : CallR X (.builtin "len") (fun xs H Q => ∃ p ys, xs = [.ref p] ∧ (SqL X.K H p ys ∨ SqT X.K H p ys) ∧ Q (.int ys.length) H) := by
  intro pins s σ H xs us Q I r h
  obtain ⟨p, ys, rfl, hq, q⟩ := h
  obtain ⟨u, rfl, rx⟩ := vals1 r
  cases rx
  have hn := line63
  rcases hq with hq | hq
  · obtain ⟨its, r', pl, hz⟩ := I.list hq
    have hlen := r'.length
    exact Calls.call_len_list pl.isList (by simp only [List.size_toArray] <;> omega) ⟨.int ys.length, H, I.tok _, ⟨s.toks + 1, by rw [List.size_toArray, hlen]⟩, q⟩
  · obtain ⟨its, r', pl, hz⟩ := I.tuple hq
    have hlen := r'.length
    exact len_tuple pl (by simp only [List.size_toArray] <;> omega) ⟨.int ys.length, H, I.tok _, ⟨s.toks + 1, by rw [List.size_toArray, hlen]⟩, q⟩
theorem call_tuple_of : CallR X (.type "tuple") (fun xs H Q => ∃ p ys, xs = [.ref p] ∧ ((SqL X.K H p ys ∧ ∀ l, H l = none → Q (.ref l) (upd H l (.tup ys))) ∨ (SqT X.K H p ys ∧ Q (.ref p) H))) := by
  intro pins s σ H xs us Q I r h
  obtain ⟨p, ys, rfl, h⟩ := h
  obtain ⟨u, rfl, rx⟩ := vals1 r
  cases rx
  rcases h with ⟨hq, q⟩ | ⟨hq, q⟩
  · obtain ⟨its, r', pl, hz⟩ := I.list hq
    have hlen := r'.length
    refine call_tuple_list pl.isList (fun h' kp => ?_) (by simp only [List.size_toArray] <;> omega)
    have I1 : Inv X pins σ H { s with heap := h' } := I.kept (t' := s.toks) kp
    have I2 : Inv X pins σ (upd H h'.objs.size (.tup ys)) { s with heap := h'.push { cls := .type "tuple", data := .seq its.toArray } } :=
      I1.laid (t' := s.toks) (fun b o e => Heap.get?_push_of_some _ e) (Nat.le_refl _) (show ObjOk X.prog X.w _ _ _ (.tup ys) from ⟨hz, its, r', IsTup.new _ _⟩)
    exact ⟨.ref h'.objs.size, _, I2, rfl, q _ (I1.hok.fresh (Nat.le_refl _))⟩
  · obtain ⟨its, r', pl, hz⟩ := I.tuple hq
    exact call_tuple_same pl ⟨.ref p, H, I, rfl, q⟩

/-! ### the call of a builtin's method: o.m(..) -/
/-- the value is of that builtin type -/
def tyV (K : PySem.W.Frag) (T : String) (x : V) (H : Hp) : Prop := match x with
  | .str _ => T = "str"
  | .int _ => T = "int"
  | .ref p => (T = "list" ∧ ∃ xs, SqL K H p xs) ∨ (T = "tuple" ∧ ∃ o, K.lookup p = some o ∧ o.cls = .type "tuple" ∧ o.dict = none) ∨
      (T = "dict" ∧ ((∃ kvs, H p = some (.dK kvs)) ∨ ∃ kvs, H p = some (.dT kvs))) ∨ (T = "set" ∧ ∃ S n, H p = some (.set S n))
  | _ => False
theorem tyV_is {pins : List (Addr × Obj)} {σ : St} {H : Hp} {s : Shared} {T : String} {x : V} {v : Value} (I : Inv X pins σ H s) (r : RelV x v) (ty : tyV X.K T x H) :
    s.TypeIs v T ∧ ∀ a, v = .ref a → ∃ ob, s.heap.get? a = some ob ∧ ob.dict = none := by
  cases x with
  | str z =>
    obtain ⟨t, rfl⟩ := r
    cases (show T = "str" from ty)
    exact ⟨typeIs_str s z t, fun _ e => nomatch e⟩
  | int i =>
    obtain ⟨t, rfl⟩ := r
    cases (show T = "int" from ty)
    exact ⟨typeIs_int s i t, fun _ e => nomatch e⟩
  | ref p =>
    cases r
    rcases ty with ⟨rfl, xs, hq⟩ | ⟨rfl, o, hk, hc, hd⟩ | ⟨rfl, hk⟩ | ⟨rfl, S, n, hk⟩
    · obtain ⟨its, _, pl, _⟩ := I.list hq
      refine ⟨pl.isList.typeIs, fun a e => ?_⟩
      cases e
      obtain ⟨o, n, e, c, hd, _⟩ := pl
      exact ⟨o, e, hd⟩
    · refine ⟨⟨o, I.kIn p o hk, hc⟩, fun a e => ?_⟩
      cases e
      exact ⟨o, I.kIn _ o hk, hd⟩
    · have z : ∃ o, s.heap.get? p = some o ∧ o.ExactDict := by
        rcases hk with ⟨kvs, hk⟩ | ⟨kvs, hk⟩
        · obtain ⟨_, _, _, _, o, _, _, e, ex, _⟩ := I.hok p _ hk
          exact ⟨o, e, ex⟩
        · obtain ⟨_, _, _, _, o, _, _, e, ex, _⟩ := I.hok p _ hk
          exact ⟨o, e, ex⟩
      obtain ⟨o, e, ex⟩ := z
      refine ⟨⟨o, e, ex.1⟩, fun a e2 => ?_⟩
      cases e2
      exact ⟨o, e, ex.2.1⟩
    · obtain ⟨o, _, _, _, e, ex, _⟩ := I.hok p _ hk
      refine ⟨⟨o, e, ex.1⟩, fun a e2 => ?_⟩
      cases e2
      exact ⟨o, e, ex.2.1⟩
  | _ => exact False.elim ty
def tBM0 (K : PySem.W.Frag) (T : String) (r : V → List V → Hp → VK → Prop) (to : TE) : TE := fun σ H Q => to σ H fun x H1 => tyV K T x H1 ∧ r x [] H1 Q
def tBM (K : PySem.W.Frag) (T : String) (r : V → List V → Hp → VK → Prop) (to : TE) (t : TA) : TE := fun σ H Q => to σ H fun x H1 => tyV K T x H1 ∧ t σ H1 fun xs H2 => r x xs H2 Q
variable {o e : Expr} {es : List Expr} {to : TE} {t : TA} {name : Str} {apos cpos : Pos} {T id : String} {r : V → List V → Hp → VK → Prop}
theorem pe_bm (pa : PlainAttrs T) (slot : Slot T name id) (hty : typeOf (.builtin id) = pure (.type "method_descriptor")) (hm : MtR X id r) (ho : PE X o to) (ha : PA X (e :: es) t)
    (hbase : attributeBase o name X.env (eval o X.env) = eval o X.env := by rfl)
    (hfew : ((backTo cpos (starEach (e :: es) X.env)).all (fun x => !x.1) && (backToKw cpos (keywordEach [] X.env)).all (fun x => x.1.isSome)
      && decide ((e :: es).length + ([] : List Keyword).length + (if ([] : List Keyword).isEmpty then 0 else 1) < 30)) = true := by rfl)
    (hline : (apos.endLine == cpos.line) = true := by rfl) (hs : starEach (e :: es) X.env = (false, eval e X.env) :: starEach es X.env := by rfl) (hplain : (backTo cpos (starEach es X.env)).any (·.1) = false := by rfl) :
    PE X (.Call (.Attribute o name apos) (e :: es) [] cpos) (tBM X.K T r to t) := by
  intro pins s σ H Q I h
  refine wpAny_Call_method_late hbase hfew hline rfl (thn (ho pins s σ H _ I h) fun v s1 ⟨x, H1, I1, r1, ty, q1⟩ => ?_)
  obtain ⟨h1, h2⟩ := tyV_is I1 r1 ty
  refine ⟨T, id, pa, slot, hty, h1, h2, ?_⟩
  have hA := ha cpos pins s1 σ H1 _ I1 q1
  rw [hs] at hA ⊢
  refine Calls.callWith_builtin (by show (false || (backTo cpos (starEach es X.env)).any (·.1)) = false; rw [hplain] <;> rfl) (Calls.evalArgs_plain ?_)
  exact thn hA fun us s2 ⟨vs, H2, I2, r2, q2⟩ => hm pins s2 σ H2 x vs v us Q I2 r1 r2 q2
/- xs.append(e), list.index on a module's tuple .. are MtR facts of 06m -/
end
end L2

namespace L2
open PySem PySem.Spec PyProof.Rows

def MtM (X : Cx) (id : String) (r : V → List V → Hp → VK → Prop) : Prop :=
  ∀ (pins : List (Addr × Obj)) (s : Shared) (σ : St) (H : Hp) (x : V) (xs : List V) (v : Value) (us : List Value) (Q : VK), Inv X pins σ H s → RelV x v → Vals xs us → r x xs H Q →
    wpAny (model X.prog X.w) X.A (call (.builtin id) (v :: us)) (EP X pins σ Q) X.xe s

/-! ### lists of values -/
theorem Vals.one : ∀ {x : V} {us : List Value}, Vals [x] us → ∃ u, us = [u] ∧ RelV x u
  | _, _, .cons r .nil => ⟨_, rfl, r⟩
theorem Vals.rep {xs : List V} {us : List Value} (h : Vals xs us) : ∀ k : Nat, Vals (List.replicate k xs).flatten (List.replicate k us).flatten
  | 0 => .nil
  | k + 1 => by
    rw [List.replicate_succ, List.replicate_succ, List.flatten_cons, List.flatten_cons]
    exact Vals.append h (Vals.rep h k)
theorem foldl_rep (its : List Value) : ∀ (k : Nat) (acc : List Value),
    List.foldl (fun x1 x2 => x1 ++ x2) acc.toArray (List.replicate k its.toArray) = (acc ++ (List.replicate k its).flatten).toArray
  | 0, acc => by simp
  | k + 1, acc => by
    have e : acc.toArray ++ its.toArray = (acc ++ its).toArray := by simp
    have e2 : (acc ++ its) ++ (List.replicate k its).flatten = acc ++ (List.replicate (k + 1) its).flatten := by
      rw [List.replicate_succ, List.flatten_cons, List.append_assoc]
    rw [← e2, ← foldl_rep its k (acc ++ its), ← e, List.replicate_succ, List.foldl_cons]

section
variable {X : Cx} {pins : List (Addr × Obj)} {σ : St} {H : Hp} {s : Shared} {l b : Addr} {xs ys zs : List V}

/-! ### the two steps: a tracked list is rewritten, a new list is laid -/
theorem Inv.lset {its its' : List Value} {n : Nat} {f : Array Value → Array Value} {t' : Nat} (I : Inv X pins σ H s) (hH : H l = some (.lst xs))
    (e : s.heap.get? l = some { cls := .type "list", data := .seq its.toArray n }) (hf : f its.toArray = its'.toArray) (hv : Vals ys its') (hz : ys.length ≤ sizeLine) :
    Inv X pins σ (upd H l (.lst ys)) { s with heap := s.heap.update l (Obj.mapSeq f), toks := t' } := by
  have q := PySem.IsL.update e f
  rw [hf] at q
  refine I.write (x := l) (e := l) (by rw [hH]; exact trivial) (.inl rfl) (fun b' u hb hu => (Heap.get?_update_other s.heap (Obj.mapSeq f) (Ne.symm hb)).trans hu) ⟨_, q⟩ ?_
  exact ⟨hz, its', _, hv, q⟩
theorem Inv.lnew {its : List Value} {t' : Nat} (I : Inv X pins σ H s) (hv : Vals ys its) (hz : ys.length ≤ sizeLine) :
    Inv X pins σ (upd H s.heap.objs.size (.lst ys)) { s with heap := s.heap.push { cls := .type "list", data := .seq its.toArray }, toks := t' } :=
  I.laid (fun _ _ q => Heap.get?_push_of_some _ q) (Nat.le_refl _) ⟨hz, its, 0, hv, Heap.get?_push_size _ rfl⟩
theorem Inv.fresh (I : Inv X pins σ H s) : H s.heap.objs.size = none := I.hok.fresh (Nat.le_refl _)
theorem Inv.lstM (I : Inv X pins σ H s) (hH : H l = some (.lst xs)) : xs.length ≤ sizeLine ∧ ∃ (its : List Value) (n : Nat), Vals xs its ∧ xs.length = its.length ∧ s.heap.get? l = some { cls := .type "list", data := .seq its.toArray n } := by
  obtain ⟨z, its, n, r, e⟩ := I.hok l _ hH
  exact ⟨z, its, n, r, r.length, e⟩

theorem notLongL {n : Nat} (h : n ≤ sizeLine) : Builtin.List.listTooLong n = false := by
  unfold Builtin.List.listTooLong
  exact decide_eq_false (by omega)
end

section
variable {X : Cx}

/-! ### methods -/
def rAppend : V → List V → Hp → VK → Prop := fun x vs H Q => ∃ l xs y, x = .ref l ∧ vs = [y] ∧ H l = some (.lst xs) ∧ xs.length < sizeLine ∧ Q .non (upd H l (.lst (xs ++ [y])))
theorem mt_append : MtM X "list.append" rAppend := by
  intro pins s σ H x vs v us Q I rx rv h
  obtain ⟨l, xs, y, rfl, rfl, hH, hz, q⟩ := h
  cases rx
  obtain ⟨u, rfl, ru⟩ := rv.one
  obtain ⟨z, its, n, r, hl, e⟩ := I.lstM hH
  refine call_meets F.slot_list_append ⟨_, e, rfl⟩ F.entry_list_append (F.args_list_append_2 _ _) (PySem.list_append l its.toArray n u (by rw [List.size_toArray]; omega)) ⟨e, ?_⟩
  refine ⟨.non, _, I.lset (its' := its ++ [u]) hH e (by simp) (r.append (.cons ru .nil)) ?_, rfl, q⟩
  rw [List.length_append, List.length_singleton]
  omega






/-! ### list + list, list += list, list * int -/
def rCat : R2 := fun x y H Q => ∃ l b xs zs, x = .ref l ∧ y = .ref b ∧ H l = some (.lst xs) ∧ H b = some (.lst zs) ∧ xs.length + zs.length ≤ sizeLine ∧ ∀ p, H p = none → Q (.ref p) (upd H p (.lst (xs ++ zs)))
theorem op_cat : OpR X (binaryOp .Add) rCat := by
  intro pins s σ H x y v u Q I rx ry h
  obtain ⟨l, b, xs, zs, rfl, rfl, hH, hB, hz, q⟩ := h
  cases rx
  cases ry
  obtain ⟨z, its, n, r, hl, e⟩ := I.lstM hH
  obtain ⟨z2, its2, n2, r2, hl2, e2⟩ := I.lstM hB
  refine PySem.P.add_list e e2 ?_ (by rw [List.size_toArray, List.size_toArray]; omega)
  have ea : its.toArray ++ its2.toArray = (its ++ its2).toArray := by simp
  rw [ea]
  exact ⟨.ref _, _, I.lnew (t' := s.toks) (r.append r2) (by rw [List.length_append]; omega), rfl, q _ I.fresh⟩
/-- a list times an int (a negative one is nothing) -/
def rRep : R2 := fun x y H Q => ∃ l k xs, x = .ref l ∧ y = .int k ∧ H l = some (.lst xs) ∧ -(2 ^ 63) ≤ k ∧ k < 2 ^ 63 ∧ xs.length * k.toNat ≤ sizeLine ∧
  ∀ p, H p = none → Q (.ref p) (upd H p (.lst (List.replicate k.toNat xs).flatten))
theorem len_rep {α : Type} (xs : List α) (k : Nat) : (List.replicate k xs).flatten.length = k * xs.length := by
  induction k with
  | zero => simp
  | succ k ih => rw [List.replicate_succ, List.flatten_cons, List.length_append, ih, Nat.succ_mul, Nat.add_comm]
theorem op_rep : OpR X (binaryOp .Mult) rRep := by
  intro pins s σ H x y v u Q I rx ry h
  obtain ⟨l, k, xs, rfl, rfl, hH, h1, h2, hz, q⟩ := h
  cases rx
  obtain ⟨t, rfl⟩ := ry
  obtain ⟨z, its, n, r, hl, e⟩ := I.lstM hH
  have hlen : its.toArray.size * k.toNat ≤ sizeLine := by rw [List.size_toArray, ← hl]; exact hz
  have hcap : ¬ its.toArray.size * k.toNat > (2 ^ 63 - 1) / 8 := by
    have : (sizeLine : Nat) ≤ (2 ^ 63 - 1) / 8 := by decide
    omega
  have hfit : ¬ (!Builtin.List.listFitsIndex k) = true := by
    rw [fitsIndex_both h1 h2]
    exact Bool.false_ne_true
  have hlong : ¬ Builtin.List.listTooLong (its.toArray.size * k.toNat) = true := by
    rw [notLongL hlen]
    exact Bool.false_ne_true
  have hnew : List.foldl (fun x1 x2 => x1 ++ x2) #[] (List.replicate (if its.toArray.isEmpty = true then 0 else k.toNat) its.toArray) = (List.replicate k.toNat its).flatten.toArray := by
    have f0 : ∀ m : Nat, List.foldl (fun x1 x2 => x1 ++ x2) #[] (List.replicate m its.toArray) = (List.replicate m its).flatten.toArray := fun m => by
      have := foldl_rep its m []
      rw [List.nil_append] at this
      exact this
    rw [f0]
    cases its with
    | nil => simp
    | cons a r' => rw [if_neg (by simp)]
  refine wpAny_binaryOp_repeat_ref (T := "list") (U := "int") (by decide) ⟨_, e, rfl⟩ (fun s' => typeIs_int s' k t) noFill_list_mul F.fills_int_mul F.slot_int_rmul repeat_list F.slot_int_index.lookup
    (call_meets F.slot_int_rmul (typeIs_int s k t) F.entry_int_rmul (F.args_int_rmul_2 _ _) (int___rmul___int_list k t l its.toArray n)
      ⟨e, rfl, ⟨_, e, rfl⟩, call_meets F.slot_list_mul ⟨_, e, rfl⟩ F.entry_list_mul (F.args_list_mul_2 _ _) (AutoListH.list___mul___list_int_3 l its.toArray n k t hfit hcap hlong) ⟨e, ?_⟩⟩)
  rw [hnew]
  exact ⟨.ref _, _, I.lnew (t' := s.toks) (r.rep k.toNat) (by rw [len_rep, Nat.mul_comm]; exact hz), rfl, q _ I.fresh⟩

/-! ### del xs[i] -/
end

/-! ### xs[a:b] = ys -/
section
variable {prog : Program} {w : World} {A : Around} {E : Value → Shared → Prop} {s : Shared}
set_option maxRecDepth 100000 in
end

section
variable {X : Cx}
end
end L2

namespace L2
open PySem PySem.Spec PyProof.Rows


/-! ### the library's walks over a list of ints, kept objects alone -/
section
variable {prog : Program} {w : World} {A : Around} {E : Value → Shared → Prop} {s : Shared} {l : Addr} {its : List Value} {ns : List Int} {Q : Value → Shared → Prop}
end

/-! ### the calls, by values (CallR of 03t; MtR of 06l) -/
section
variable {X : Cx}

/-! sorted, sort (fewer than 64 items: the library's own bound) -/
end

/-! ### list.index, flat items -/
section
variable {X : Cx}
end

/-! ### type(x) of an own instance; is, is not of a module's class -/
section
variable {X : Cx}
end

/-! ### any(xs), all(xs) of a list of bools -/
section
variable {X : Cx}
end

/-! ### == and != of data at any depth: none, bools, ints, texts, lists, tuples -/
mutual
inductive Dp (K : PySem.W.Frag) (H : Hp) : V → PyData → Prop
  | non : Dp K H .non .none
  | bl (b : Bool) : Dp K H (.bl b) (.bool b)
  | int (i : Int) : Dp K H (.int i) (.int i)
  | str (x : Str) : Dp K H (.str x) (.str x)
  | lst {a : Addr} {xs : List V} {ds : List PyData} : SqL K H a xs → DpAll K H xs ds → Dp K H (.ref a) (.list ds)
  | tup {a : Addr} {xs : List V} {ds : List PyData} : SqT K H a xs → DpAll K H xs ds → Dp K H (.ref a) (.tuple ds)
inductive DpAll (K : PySem.W.Frag) (H : Hp) : List V → List PyData → Prop
  | nil : DpAll K H [] []
  | cons {v : V} {vs : List V} {d : PyData} {ds : List PyData} : Dp K H v d → DpAll K H vs ds → DpAll K H (v :: vs) (d :: ds)
end
section
variable {X : Cx} {pins : List (Addr × Obj)} {σ : St} {H : Hp} {s : Shared}
mutual
theorem Dp.reads (I : Inv X pins σ H s) : ∀ (d : PyData) (v : V) (u : Value), Dp X.K H v d → RelV v u → ∃ as, Reads s.heap u d as
  | .none, _, _, h, r => by
    cases h
    cases r
    exact ⟨_, Reads.none⟩
  | .bool b, _, _, h, r => by
    cases h
    cases r
    exact ⟨_, Reads.bool b⟩
  | .int i, _, _, h, r => by
    cases h
    obtain ⟨t, rfl⟩ := r
    exact ⟨_, Reads.int i t⟩
  | .str x, _, _, h, r => by
    cases h
    obtain ⟨t, rfl⟩ := r
    exact ⟨_, Reads.str x t⟩
  | .list ds, _, _, h, r => by
    cases h with
    | lst hs ha =>
      cases r
      obtain ⟨its, rv, ⟨o, n, ho, hc, _, hd⟩, _⟩ := I.list hs
      obtain ⟨as, hr⟩ := Dp.readsAll I ds _ its ha rv
      exact ⟨_, Reads.list ho hc hd hr⟩
  | .tuple ds, _, _, h, r => by
    cases h with
    | tup hs ha =>
      cases r
      obtain ⟨its, rv, ⟨o, ho, hc, n, hd⟩, _⟩ := I.tuple hs
      obtain ⟨as, hr⟩ := Dp.readsAll I ds _ its ha rv
      exact ⟨_, Reads.tuple ho hc hd hr⟩
  | .dict _, _, _, h, _ => by cases h
theorem Dp.readsAll (I : Inv X pins σ H s) : ∀ (ds : List PyData) (vs : List V) (us : List Value), DpAll X.K H vs ds → Vals vs us → ∃ as, ReadsAll s.heap us ds as
  | [], _, _, h, r => by
    cases h
    cases r
    exact ⟨_, ReadsAll.nil⟩
  | d :: ds, _, _, h, r => by
    cases h with
    | cons h1 h2 =>
      cases r with
      | cons r1 r2 =>
        obtain ⟨as, q1⟩ := Dp.reads I d _ _ h1 r1
        obtain ⟨bs, q2⟩ := Dp.readsAll I ds _ _ h2 r2
        exact ⟨_, ReadsAll.cons q1 q2⟩
end
end
section
variable {X : Cx}
def rNeD (K : PySem.W.Frag) : R2 := fun x y H Q => ∃ d e, Dp K H x d ∧ Dp K H y e ∧ SeqAt.shaped d = true ∧ SeqAt.shaped e = true ∧ Q (.bl (!PyData.eqv d e)) H
theorem op_neD (hu : X.A.units + 64 < cLine) : OpR X (compareOp .NotEq) (rNeD X.K) := by
  intro pins s σ H x y v u Q I rx ry h
  obtain ⟨d, e, hd, he, sd, se, q⟩ := h
  obtain ⟨as, r1⟩ := Dp.reads I d x v hd rx
  obtain ⟨bs, r2⟩ := Dp.reads I e y u he ry
  exact SeqAt.compareNe_shaped r1 r2 sd se hu ⟨.bl _, H, I, rfl, q⟩
end
end L2

namespace L2
open PySem PySem.Spec PyProof.Rows
abbrev CellAt (h : Heap) (c : Addr) (v : Option Value) : Prop := h.IsCell c v
def relS (scope sc : Scope) : Scope :=
  { scope with names := scope.names.map fun (n, k) => if (k == .free && sc.kind == .function && sc.names.lookup n == some .cell) then (n, .cell) else (n, k) }

def cloFrom (cells : List (Str × Addr)) : List (Str × NameKind) → List (Str × Addr) → List (Str × Addr)
  | [], acc => acc
  | (n, k) :: r, acc => if k == .free then cloFrom cells r ((n, (cells.lookup n).getD 0) :: acc) else cloFrom cells r acc

theorem closure_loop (env : Env) (f : Str × NameKind → List (Str × Addr) → Sem (ForInStep (List (Str × Addr))))
    (hf : ∀ n k c, f (n, k) c = if k == .free then (do let a ← cellOf env n; pure (.yield ((n, a) :: c))) else pure (.yield c)) :
    ∀ (names : List (Str × NameKind)) (acc : List (Str × Addr)), (∀ y ∈ names, y.2 = .free → ∃ c, env.cells.lookup y.1 = some c) → forIn names acc f = pure (cloFrom env.cells names acc)
  | [], acc, _ => by rw [List.forIn_nil]; rfl
  | (n, k) :: r, acc, h => by
    rw [List.forIn_cons, hf]
    have ih := fun acc => closure_loop env f hf r acc fun y hy => h y (List.mem_cons_of_mem _ hy)
    unfold cloFrom
    by_cases hk : (k == NameKind.free) = true
    · rw [if_pos hk, if_pos hk]
      obtain ⟨c, hc⟩ := h (n, k) List.mem_cons_self (by simpa using hk)
      have e : cellOf env n = pure c := by unfold cellOf; rw [hc]
      rw [e]
      have e2 : (env.cells.lookup n).getD 0 = c := by rw [hc]; rfl
      rw [e2]
      exact ih _
    · rw [if_neg hk, if_neg hk]
      exact ih _
theorem closure_ok {scope : Scope} {env : Env} (h : ∀ y ∈ scope.names, y.2 = .free → ∃ c, env.cells.lookup y.1 = some c) : closureFor scope env = pure (cloFrom env.cells scope.names []) := by
  simp only [closureFor]
  rw [closure_loop env _ (fun n k c => rfl) scope.names [] h]
  rfl

theorem mem_lookup {α : Type} : ∀ {l : List (Str × α)} {n : Str} {c : α}, (n, c) ∈ l → ∃ c', l.lookup n = some c'
  | (k, v) :: r, n, c, h => by
    rw [List.lookup_cons]
    cases hb : n == k with
    | true => exact ⟨_, rfl⟩
    | false =>
      rcases List.mem_cons.mp h with e | h
      · cases e; simp at hb
      · exact mem_lookup h

theorem cloFrom_mem {cells : List (Str × Addr)} : ∀ {names : List (Str × NameKind)} {acc : List (Str × Addr)} {n : Str} {c : Addr}, (n, c) ∈ cloFrom cells names acc → (n, c) ∈ acc ∨ ((n, .free) ∈ names ∧ c = (cells.lookup n).getD 0)
  | [], _, _, _, h => .inl h
  | (m, k) :: r, acc, n, c, h => by
    unfold cloFrom at h
    split at h
    · rename_i hk
      have hk : k = .free := by simpa using hk
      rcases cloFrom_mem h with h | ⟨h1, h2⟩
      · rcases List.mem_cons.mp h with e | h
        · cases e; exact .inr ⟨hk ▸ List.mem_cons_self, rfl⟩
        · exact .inl h
      · exact .inr ⟨List.mem_cons_of_mem _ h1, h2⟩
    · rcases cloFrom_mem h with h | ⟨h1, h2⟩
      · exact .inl h
      · exact .inr ⟨List.mem_cons_of_mem _ h1, h2⟩
theorem cloFrom_acc {cells : List (Str × Addr)} : ∀ {names : List (Str × NameKind)} {acc : List (Str × Addr)} {p : Str × Addr}, p ∈ acc → p ∈ cloFrom cells names acc
  | [], _, _, h => h
  | (m, k) :: r, acc, p, h => by
    unfold cloFrom
    split
    · exact cloFrom_acc (List.mem_cons_of_mem _ h)
    · exact cloFrom_acc h
theorem cloFrom_has {cells : List (Str × Addr)} : ∀ {names : List (Str × NameKind)} {acc : List (Str × Addr)} {n : Str}, (n, .free) ∈ names → (n, (cells.lookup n).getD 0) ∈ cloFrom cells names acc
  | (m, k) :: r, acc, n, h => by
    unfold cloFrom
    rcases List.mem_cons.mp h with e | h
    · cases e
      exact cloFrom_acc List.mem_cons_self
    · split
      · exact cloFrom_has h
      · exact cloFrom_has h

theorem cells_mem : ∀ {names : List (Str × NameKind)} {h : Heap} {acc : List (Str × Addr)} {x : Str} {c : Addr}, (x, c) ∈ cellsFrom h.objs.size names acc →
    (x, c) ∈ acc ∨ ((x, .cell) ∈ names ∧ h.objs.size ≤ c ∧ CellAt (pushCells h names) c none)
  | [], _, _, _, _, h => .inl h
  | (n, k) :: r, h, acc, x, c, hm => by
    unfold cellsFrom at hm
    unfold pushCells
    split at hm
    · rename_i hk
      rw [if_pos hk]
      have hk : k = .cell := by simpa using hk
      rw [← Heap.size_push h { cls := .type "cell", data := .cell none }] at hm
      rcases cells_mem hm with hm | ⟨h1, h2, h3⟩
      · rcases List.mem_cons.mp hm with e | hm
        · cases e
          exact .inr ⟨hk ▸ List.mem_cons_self, Nat.le_refl _, _, pushCells_keeps r _ _ _ (Heap.get?_push_size _ rfl), rfl⟩
        · exact .inl hm
      · rw [Heap.size_push] at h2
        exact .inr ⟨List.mem_cons_of_mem _ h1, Nat.le_of_succ_le h2, h3⟩
    · rename_i hk
      rw [if_neg hk]
      rcases cells_mem hm with hm | ⟨h1, h2, h3⟩
      · exact .inl hm
      · exact .inr ⟨List.mem_cons_of_mem _ h1, h2, h3⟩
theorem cells_acc : ∀ {names : List (Str × NameKind)} {n : Nat} {acc : List (Str × Addr)} {p : Str × Addr}, p ∈ acc → p ∈ cellsFrom n names acc
  | [], _, _, _, h => h
  | (m, k) :: r, n, acc, p, h => by
    unfold cellsFrom
    split
    · exact cells_acc (List.mem_cons_of_mem _ h)
    · exact cells_acc h
theorem cells_has : ∀ {names : List (Str × NameKind)} {n : Nat} {acc : List (Str × Addr)} {x : Str}, (x, .cell) ∈ names → ∃ c, (x, c) ∈ cellsFrom n names acc
  | (m, k) :: r, n, acc, x, h => by
    unfold cellsFrom
    rcases List.mem_cons.mp h with e | h
    · cases e
      exact ⟨n, cells_acc List.mem_cons_self⟩
    · split
      · exact cells_has h
      · exact cells_has h
theorem cells_inj : ∀ {names : List (Str × NameKind)} {h : Heap} {acc : List (Str × Addr)} {x y : Str} {c : Addr}, (∀ p ∈ acc, p.2 < h.objs.size) → (∀ x y c, (x, c) ∈ acc → (y, c) ∈ acc → x = y) →
    (x, c) ∈ cellsFrom h.objs.size names acc → (y, c) ∈ cellsFrom h.objs.size names acc → x = y
  | [], _, _, _, _, _, _, hi, h1, h2 => hi _ _ _ h1 h2
  | (n, k) :: r, h, acc, x, y, c, hl, hi, h1, h2 => by
    unfold cellsFrom at h1 h2
    split at h1
    · rename_i hk
      rw [if_pos hk] at h2
      rw [← Heap.size_push h { cls := .type "cell", data := .cell none }] at h1 h2
      refine cells_inj (h := h.push _) (fun p hp => ?_) (fun x y c a b => ?_) h1 h2
      · rw [Heap.size_push]
        rcases List.mem_cons.mp hp with rfl | hp
        · exact Nat.lt_succ_self _
        · exact Nat.lt_succ_of_lt (hl p hp)
      · rcases List.mem_cons.mp a with e | a <;> rcases List.mem_cons.mp b with e' | b
        · cases e; cases e'; rfl
        · cases e; exact absurd (hl _ b) (Nat.lt_irrefl _)
        · cases e'; exact absurd (hl _ a) (Nat.lt_irrefl _)
        · exact hi _ _ _ a b
    · rename_i hk
      rw [if_neg hk] at h2
      exact cells_inj hl hi h1 h2

theorem newEnv_comp {M : Model} {A : Around} {E : Value → Shared → Prop} {s : Shared} {scope : Scope} {globals : Addr} {closure : List (Str × Addr)} {qual : Str} {func : Option Addr} {code : Value} {around : Env} {builtins : Addr} {Q : Env → Shared → Prop}
    (h : Q (newEnv scope s.heap.objs.size globals (cellsFrom (s.heap.objs.size + 1) scope.names closure) qual func code (some around) builtins)
      { s with heap := pushCells (s.heap.push { cls := .type "dict", data := .dict #[] }) scope.names }) :
    wpAny M A (newFunctionEnv scope globals closure [] qual func code (some around) builtins) Q E s := by
  simp only [newFunctionEnv, Option.isSome_some, if_true]
  refine wpAny_bind (wpAny_alloc ?_)
  refine wpAny_bind (wpAny_layCells _ (fun n k c => rfl) scope.names closure _ _ ?_)
  rw [show ({ s with heap := s.heap.push { cls := .type "dict", data := .dict #[] } } : Shared).heap.objs.size = s.heap.objs.size + 1 from Heap.size_push ..]
  rw [List.forIn_nil]
  exact wpAny_bind (wpAny_pure (wpAny_pure h))

/-- every name of the written scope, in the scope that runs -/
theorem lookup_relS {sc : Scope} : ∀ {names : List (Str × NameKind)} {x : Str} {k : NameKind},
    (names.map fun (n, k) => if (k == NameKind.free && sc.kind == .function && sc.names.lookup n == some .cell) then (n, NameKind.cell) else (n, k)).lookup x = some k →
    ∃ k', names.lookup x = some k' ∧ (k = k' ∨ (k' = .free ∧ k = .cell))
  | [], _, _, h => by simp at h
  | (n, k₀) :: r, x, k, h => by
    have ih := @lookup_relS sc r x k
    have h' : List.lookup x ((if (k₀ == NameKind.free && sc.kind == .function && sc.names.lookup n == some .cell) = true then (n, NameKind.cell) else (n, k₀)) :: (r.map _)) = some k := h
    cases hx : x == n with
    | true =>
      simp only [List.lookup_cons, hx]
      by_cases hc : (k₀ == NameKind.free && sc.kind == .function && sc.names.lookup n == some .cell) = true
      · rw [if_pos hc] at h'
        simp only [List.lookup_cons, hx] at h'
        cases h'
        simp only [Bool.and_eq_true, beq_iff_eq] at hc
        exact ⟨k₀, rfl, .inr ⟨hc.1.1, rfl⟩⟩
      · rw [if_neg hc] at h'
        simp only [List.lookup_cons, hx] at h'
        cases h'
        exact ⟨_, rfl, .inl rfl⟩
    | false =>
      simp only [List.lookup_cons, hx]
      by_cases hc : (k₀ == NameKind.free && sc.kind == .function && sc.names.lookup n == some .cell) = true
      · rw [if_pos hc] at h'
        simp only [List.lookup_cons, hx] at h'
        exact ih h'
      · rw [if_neg hc] at h'
        simp only [List.lookup_cons, hx] at h'
        exact ih h'



/-- the names of a comprehension's block: its own (with their places in N), or captured -/
structure BlkOk (N : List Str) (sc scope : Scope) (own : List (Str × Nat)) : Prop where
  kind : scope.kind = .function
  uniq : ∀ y ∈ scope.names, scope.names.lookup y.1 = some y.2
  ix : ∀ p ∈ own, N[p.2]? = some p.1
  free : ∀ y ∈ scope.names, y.2 = .free → sc.names.lookup y.1 = some .cell ∨ sc.names.lookup y.1 = some .free
  own : ∀ y ∈ scope.names, y.2 = .local ∨ y.2 = .cell → y.1 ∈ own.map (·.1) ∨ y.1 ∉ N
/-- the slots of the block's own names forgotten -/
def wipe (σ : St) : List Nat → St
  | [] => σ
  | v :: vs => (wipe σ vs).set v none
theorem wipe_length (σ : St) : ∀ vs : List Nat, (wipe σ vs).length = σ.length
  | [] => rfl
  | v :: vs => by unfold wipe; rw [List.length_set, wipe_length σ vs]
theorem wipe_some {σ : St} {i : Nat} {x : V} : ∀ {vs : List Nat}, (wipe σ vs)[i]? = some (some x) → σ[i]? = some (some x) ∧ i ∉ vs
  | [], h => ⟨h, by simp⟩
  | v :: vs, h => by
    unfold wipe at h
    by_cases hi : v = i
    · subst hi
      by_cases hv : v < (wipe σ vs).length
      · rw [List.getElem?_set_self hv] at h; cases h
      · rw [List.getElem?_eq_none (by simpa using hv)] at h; cases h
    · rw [List.getElem?_set_ne hi] at h
      obtain ⟨h1, h2⟩ := wipe_some h
      exact ⟨h1, by simp only [List.mem_cons, not_or]; exact ⟨fun e => hi e.symm, h2⟩⟩

/-- the context of a block that starts at s, its iterator's objects at fp -/
abbrev Cx.blk (X : Cx) (s : Shared) (H : Hp) (scope : Scope) (cenv : Env) (fp : List Addr) : Cx := { X with s_0 := s, H_0 := H, env := cenv, outer := X.stack, ex := fp, fn := fun x => scope.names.lookup x == some .cell, pn := [], xe := fun _ _ => False }
section
variable {X : Cx} {pins : List (Addr × Obj)} {σ : St} {H : Hp} {s : Shared}
theorem block_start {scope : Scope} {own : List (Str × Nat)} {fp : List Addr} (I : Inv X pins σ H s) (ok : BlkOk X.N X.env.scope scope own) (hN : X.N.Nodup) (hfp : ∀ b ∈ fp, FpOk X pins H b ∧ b < s.heap.objs.size) :
    Inv (X.blk s H scope (compEnvC scope (cellsFrom (s.heap.objs.size + 1) scope.names (cloFrom X.env.cells scope.names [])) s.heap.objs.size X.env) fp) [] (wipe σ (own.map (·.2))) H { s with heap := pushCells (s.heap.push { cls := .type "dict", data := .dict #[] }) scope.names } := by
  have hfree : ∀ y ∈ scope.names, y.2 = .free → ∃ c, X.env.cells.lookup y.1 = some c := fun y hy e => by
    rcases ok.free y hy e with k | k
    · exact I.ok.has _ (.inl k)
    · exact I.ok.has _ (.inr k)
  generalize hcenv : compEnvC scope (cellsFrom (s.heap.objs.size + 1) scope.names (cloFrom X.env.cells scope.names [])) s.heap.objs.size X.env = cenv
  have kp : ∀ b o, s.heap.get? b = some o → (pushCells (s.heap.push { cls := .type "dict", data := .dict #[] }) scope.names).get? b = some o := fun b o e => pushCells_keeps _ _ _ _ (Heap.get?_push_of_some _ e)
  have hL : cenv.locals = s.heap.objs.size := by rw [← hcenv]; rfl
  have hcl : cenv.cells = cellsFrom (s.heap.objs.size + 1) scope.names (cloFrom X.env.cells scope.names []) := by rw [← hcenv]; rfl
  have hsc : cenv.scope = relS scope X.env.scope := by rw [← hcenv]; rfl
  rw [← Heap.size_push s.heap { cls := .type "dict", data := .dict #[] }] at hcl
  have cm : ∀ {y c}, (y, c) ∈ cloFrom X.env.cells scope.names [] → X.env.cells.lookup y = some c ∧ c < s.heap.objs.size := fun {y c} hm => by
    rcases cloFrom_mem hm with hm | ⟨h1, rfl⟩
    · cases hm
    · obtain ⟨c, hc⟩ := hfree _ h1 rfl
      rw [hc]
      obtain ⟨w, z⟩ := I.cell _ _ hc
      exact ⟨rfl, z.lt⟩
  have mem : ∀ {y c}, cenv.cells.lookup y = some c → (X.env.cells.lookup y = some c ∧ c < s.heap.objs.size) ∨ (s.heap.objs.size + 1 ≤ c ∧ CellAt (pushCells (s.heap.push { cls := .type "dict", data := .dict #[] }) scope.names) c none) := fun {y c} e => by
    rw [hcl] at e
    rcases cells_mem (PySem.mem_of_lookup e) with hm | ⟨_, h2, h3⟩
    · exact .inl (cm hm)
    · rw [Heap.size_push] at h2; exact .inr ⟨h2, h3⟩
  have look : ∀ {y}, scope.names.lookup y = some .free → ∃ c, cenv.cells.lookup y = some c ∧ X.env.cells.lookup y = some c := fun {y} hl => by
    have hy : (y, NameKind.free) ∈ scope.names := PySem.mem_of_lookup hl
    obtain ⟨c', e'⟩ := mem_lookup (cells_acc (names := scope.names) (n := (s.heap.push { cls := .type "dict", data := .dict #[] }).objs.size) (cloFrom_has (cells := X.env.cells) (acc := []) hy))
    rw [← hcl] at e'
    refine ⟨c', e', ?_⟩
    rw [hcl] at e'
    rcases cells_mem (PySem.mem_of_lookup e') with hm | ⟨h1, _, _⟩
    · exact (cm hm).1
    · have := ok.uniq _ h1
      rw [hl] at this; cases this
  have okB : (X.blk s H scope cenv fp).Ok := by
    refine ⟨I.ok.mod, by show cenv.scope.kind = _; rw [hsc]; exact ok.kind, by show cenv.globals = _; rw [← hcenv]; exact I.ok.glob, by show cenv.builtins = _; rw [← hcenv]; exact I.ok.blt, by show s.heap.objs.size ≤ cenv.locals; rw [hL]; exact Nat.le_refl _,
      fun y z c e1 e2 => ?_, fun y hy => ?_, fun y c z e => ?_, I.ok.hd, I.ok.frames, .inl rfl, fun b hb => ⟨?_, fun y c e z => ?_⟩, I.bs, Nat.le_trans I.ok.bsz I.sz, fun b o e hb => ?_, fun b hb z => ?_, I.stack, I.stkFree⟩
    · have e1 : cenv.cells.lookup y = some c := e1
      have e2 : cenv.cells.lookup z = some c := e2
      rw [hcl] at e1 e2
      refine cells_inj (fun p hp => ?_) (fun y z c a b => I.ok.inj y z c (cm a).1 (cm b).1) (PySem.mem_of_lookup e1) (PySem.mem_of_lookup e2)
      rw [Heap.size_push]
      exact Nat.lt_succ_of_lt (cm (y := p.1) (c := p.2) hp).2
    · show ∃ c, cenv.cells.lookup y = some c
      have key : ∀ k, cenv.kindOf y = some k → (k = .cell ∨ k = .free) → ∃ c, cenv.cells.lookup y = some c := fun k hk hk' => by
        unfold Env.kindOf at hk
        rw [hsc] at hk
        obtain ⟨k', e, r⟩ := lookup_relS hk
        have : k' = .cell ∨ k' = .free := by
          rcases r with rfl | ⟨rfl, _⟩
          · exact hk'
          · exact .inr rfl
        rcases this with rfl | rfl
        · obtain ⟨c, hm⟩ := cells_has (n := (s.heap.push { cls := .type "dict", data := .dict #[] }).objs.size) (acc := cloFrom X.env.cells scope.names []) (PySem.mem_of_lookup e)
          obtain ⟨c', e'⟩ := mem_lookup hm
          exact ⟨c', by rw [hcl]; exact e'⟩
        · obtain ⟨c, h1, _⟩ := look e
          exact ⟨c, h1⟩
      rcases hy with hy | hy
      · exact key _ hy (.inl rfl)
      · exact key _ hy (.inr rfl)
    · have z : (scope.names.lookup y == some NameKind.cell) = true := z
      have z : scope.names.lookup y = some .cell := by simpa using z
      have e : cenv.cells.lookup y = some c := e
      rw [hcl] at e
      rcases cells_mem (PySem.mem_of_lookup e) with hm | ⟨_, h2, _⟩
      · rcases cloFrom_mem hm with hm | ⟨h1, _⟩
        · cases hm
        · have q := ok.uniq _ h1
          rw [z] at q; cases q
      · rw [Heap.size_push] at h2
        exact Nat.le_of_succ_le h2
    · show b ≠ cenv.locals
      rw [hL]; exact Nat.ne_of_lt (hfp b hb).2
    · have e : cenv.cells.lookup y = some c := e
      rcases mem e with ⟨h1, _⟩ | ⟨h1, _⟩
      · exact (hfp b hb).1.2.2.2.2.1 y c h1 z
      · have h2 : s.heap.objs.size + 1 ≤ b := by rw [← z]; exact h1
        exact absurd (Nat.lt_of_lt_of_le (hfp b hb).2 (Nat.le_of_succ_le h2)) (Nat.lt_irrefl _)
    · rcases (hfp b hb).1.2.2.2.1 with z | z
      · exact I.ok.noex b o e z
      · exact absurd (Nat.lt_of_lt_of_le (Heap.lt_size e) (Nat.le_trans I.ok.bsz z)) (Nat.lt_irrefl _)
    · rcases List.mem_cons.mp (I.stkSub b z) with z | z
      · exact (hfp b hb).1.2.1 z
      · exact (hfp b hb).1.2.2.1 z
  refine ⟨okB, rfl, I.bare, Un.kept kp, ⟨fun _ => none, ?_, fun i y av e1 e2 e3 => ?_⟩, fun y c e => ?_, ?_, fun y c e => ?_, fun p hp => ?_, I.hok.kept kp, by rw [wipe_length]; exact I.len⟩
  · show Heap.Ns _ cenv.locals _
    rw [hL]
    exact Heap.Ns.keeps (Heap.Ns.new ..) fun b o e => pushCells_keeps _ _ _ _ e
  · obtain ⟨e2, hne⟩ := wipe_some e2
    have hfr : scope.names.lookup y = some .free ∧ (cenv.kindOf y = some .cell ∨ cenv.kindOf y = some .free) := by
      have key : ∀ k, cenv.scope.names.lookup y = some k → k = .local ∨ k = .cell ∨ k = .free → scope.names.lookup y = some .free ∧ (cenv.kindOf y = some .cell ∨ cenv.kindOf y = some .free) := fun k hk hk' => by
        have hk0 := hk
        rw [hsc] at hk
        obtain ⟨k', e, r⟩ := lookup_relS hk
        have no : ¬ (k' = .local ∨ k' = .cell) := fun hh => by
          rcases ok.own _ (PySem.mem_of_lookup e) hh with e' | e'
          · obtain ⟨p, hp, hpy⟩ := List.mem_map.mp e'
            have e3 := ok.ix p hp
            have : p.1 = y := hpy
            rw [this] at e3
            exact hne (List.mem_map.mpr ⟨p, hp, nodup_ix hN e3 e1⟩)
          · exact e' (List.mem_of_getElem? e1)
        rcases r with rfl | ⟨rfl, rfl⟩
        · rcases hk' with rfl | rfl | rfl
          · exact absurd (.inl rfl) no
          · exact absurd (.inr rfl) no
          · exact ⟨e, .inr hk0⟩
        · exact ⟨e, .inl hk0⟩
      have e3 : Vis cenv.scope y := e3
      rcases e3 with e3 | e3 | e3
      · exact key _ e3 (.inl rfl)
      · exact key _ e3 (.inr (.inl rfl))
      · exact key _ e3 (.inr (.inr rfl))
    obtain ⟨m, hn, hl⟩ := I.loc
    have hvis : Vis X.env.scope y := (ok.free _ (PySem.mem_of_lookup hfr.1) rfl).elim (fun k => .inr (.inl k)) (fun k => .inr (.inr k))
    obtain ⟨w, r, q⟩ := hl i y av e1 e2 hvis
    refine ⟨w, r, .inr ⟨hfr.2, ?_⟩⟩
    obtain ⟨c, h1, h2⟩ := look hfr.1
    rcases q with ⟨k, _⟩ | ⟨_, c', e', z⟩
    · have k : X.env.scope.names.lookup y = some .local := k
      rcases ok.free _ (PySem.mem_of_lookup hfr.1) rfl with k' | k' <;> rw [show X.env.scope.names.lookup y = _ from k'] at k <;> cases k
    · rw [h2] at e'; cases e'
      exact ⟨c, h1, z.keeps kp⟩
  · have e : cenv.cells.lookup y = some c := e
    rcases mem e with ⟨h1, _⟩ | ⟨_, z⟩
    · obtain ⟨w, z⟩ := I.cell y c h1
      exact ⟨w, z.keeps kp⟩
    · exact ⟨_, z⟩
  · show H cenv.locals = none
    rw [hL]; exact I.hok.fresh (Nat.le_refl _)
  · have e : cenv.cells.lookup y = some c := e
    rcases mem e with ⟨h1, _⟩ | ⟨h1, _⟩
    · exact I.freeC y c h1
    · exact I.hok.fresh (Nat.le_of_succ_le h1)
  · exact absurd (show p ∈ ([] : List (Addr × Obj)) ++ [] from hp) (by simp)

/-- an item appended to a tracked list -/
theorem app_ok {E : Value → Shared → Prop} {D : Addr} {xs : List V} {y : V} {v : Value} {Q : Value → Shared → Prop} (I : Inv X pins σ H s) (hD : H D = some (.lst xs)) (hz : xs.length < sizeLine) (r : RelV y v)
    (h : ∀ s', Inv X pins σ (upd H D (.lst (xs ++ [y]))) s' → Q .none s') : wpAny (model X.prog X.w) X.A (call (.builtin "list.append") [.ref D, v]) Q E s := by
  obtain ⟨hz', its, n, ri, e⟩ := I.hok D _ hD
  have hl := ri.length
  refine append_at (hsz := by rw [List.size_toArray]; omega) e fun h' sb ho' => ?_
  refine h { s with heap := h' } (I.write (t' := s.toks) (by rw [hD]; trivial) (.inl rfl) (fun b u hb q => (sb.2 b hb).trans q) ⟨_, ho'⟩ ⟨by rw [List.length_append]; exact hz, its ++ [v], n + 1, ri.append (.cons r .nil), ?_⟩)
  rw [ho']
  simp

/-- a clause's tests -/
def PTs (X : Cx) (ifs : List Expr) (t : TT) : Prop :=
  ∀ (pins : List (Addr × Obj)) (s : Shared) (σ : St) (H : Hp) (Q : Bool → Hp → Prop), Inv X pins σ H s → t σ H Q →
    wpAny (model X.prog X.w) X.A (forIn ifs true fun c r => if r = true then do let ok ← isTrue c X.env (eval c X.env); pure (ForInStep.yield ok) else pure (ForInStep.yield r)) (TP X pins σ Q) X.xe s
def tYes : TT := fun _ H Q => Q true H
theorem pts_one {c : Expr} {t : TT} (h : PT X c t) : PTs X [c] t := fun pins s σ H Q I hw => wpAny_tests_one (h pins s σ H Q I hw)
end

theorem thnF {α : Type} {t : Sem α} {Q Q' : α → Shared → Prop} {M : Model} {A : Around} {E : Value → Shared → Prop} {s : Shared} (h : wpAny M A t Q (fun _ _ => False) s) (hQ : ∀ a s, Q a s → Q' a s) : wpAny M A t Q' E s := wpAny_mono h hQ fun _ _ z => False.elim z

/-- the loop of a list comprehension's block, the target of any form (codeAny_compLoop_tests asks a target that no tuple goes to; statement and proof follow it, PyProof/CompMap.lean:41-61, with the step letOwnedTupleGo kept) -/
theorem compLoop_any {prog : Program} {w : World} {A : Around} {R : Result → Shared → Prop} {s : Shared} {elt target iter : Expr} {ifs : List Expr} {scope : Scope} {pos : Pos} {it acc : Value} {env : Env} (I : Nat → Shared → Prop)
    (turn : ∀ n s, I n s → wpAny (model prog w) A (pyNext it) (fun r s₁ => match r with
      | none => R (.ok .next) s₁
      | some v => wpAny (model prog w) A (letOwnedTupleGo target it v) (fun _ s₁' => wpAny (model prog w) A (assign target env v) (fun _ s₂ =>
          wpAny (model prog w) A (forIn ifs true fun c r => if r = true then do let ok ← isTrue c env (eval c env); pure (ForInStep.yield ok) else pure (ForInStep.yield r)) (fun ok s₃ =>
            if ok = true then wpAny (model prog w) A (eval elt env) (fun x s₄ =>
              wpAny (model prog w) A (call (.builtin "list.append") [acc, x]) (fun _ s₅ => ∃ m, m < n ∧ I m s₅) (notedBy (model prog w) A env fun e s' => R (.error e) s') s₄) (notedBy (model prog w) A env fun e s' => R (.error e) s') s₃
            else ∃ m, m < n ∧ I m s₃) (notedBy (model prog w) A env fun e s' => R (.error e) s') s₂) (notedBy (model prog w) A env fun e s' => R (.error e) s') s₁') (notedBy (model prog w) A env fun e s' => R (.error e) s') s₁) (notedBy (model prog w) A env fun e s' => R (.error e) s') s)
    (n : Nat) (h : I n s) :
    codeAny (model prog w) A (.compLoop (.ListComp elt [⟨target, iter, ifs, 0⟩] scope pos) 0 it acc env) R s := by
  refine codeAny_loop rfl I (fun n s hI => ?_) n h
  show wpAny _ A ((compTurn (.ListComp elt [⟨target, iter, ifs, 0⟩] scope pos) 0 it acc env).onRaise (fun x => do noteFrame x env; theTreesLotGoes x)) _ _ s
  refine wpAny_noted ?_
  rw [compTurn_list]
  refine wpAny_bind (wpAny_standAt (wpAny_bind (wpAny_mono (turn n s hI) (fun r s₁ h₁ => ?_) fun _ _ h' => h')))
  cases r with
  | none => exact wpAny_pure h₁
  | some v =>
    refine wpAny_bind (wpAny_mono h₁ (fun _ s₁' h₁' => ?_) fun _ _ h' => h')
    refine wpAny_bind (wpAny_mono h₁' (fun _ s₂ h₂ => wpAny_bind (wpAny_mono h₂ (fun ok s₃ h₃ => ?_) fun _ _ h' => h')) fun _ _ h' => h')
    cases ok with
    | false => exact wpAny_pure ⟨rfl, h₃⟩
    | true =>
      exact wpAny_bind (wpAny_bind (wpAny_mono h₃ (fun x s₄ h₄ => wpAny_bind (wpAny_mono h₄ (fun _ s₅ h₅ => wpAny_pure (wpAny_pure ⟨rfl, h₅⟩)) fun _ _ h' => h')) fun _ _ h' => h'))

section
variable {X : Cx}
/-- [elt for target in iter if ..]: D the new list; W by the turn and a measure, Nx what a turn is to reach -/
def tLc (wi : TI) (g : TG) (tt : TT) (te : TE) (vs : List Nat) : TE := fun σ H Q => wi σ H fun J H1 => ∀ D, H1 D = none → ∃ W : Nat → Nat → Hp → Prop, (∃ m, W 0 m (upd H1 D (.lst []))) ∧ ∀ i m H, W i m H →
  (J.stop i H ∧ Q (.ref D) H) ∨ (J.go i H ∧ ∃ Nx : Hp → Prop, (∀ H', Nx H' → ∃ m', m' < m ∧ W (i + 1) m' H') ∧ ∀ x H', J.yld i H x H' → g x (wipe σ vs) H' fun σ2 H2 => wipe σ2 vs = wipe σ vs ∧ tt σ2 H2 fun b H3 =>
    if b = true then te σ2 H3 fun y H4 => ∃ acc, H4 D = some (.lst acc) ∧ acc.length < sizeLine ∧ Nx (upd H4 D (.lst (acc ++ [y]))) else Nx H3)
theorem lc_core {pins : List (Addr × Obj)} {s : Shared} {σ : St} {H : Hp} {Q : VK} {elt tg iter : Expr} {ifs : List Expr} {scope : Scope} {own : List (Str × Nat)} {pos pos' : Pos} {wi : TI} {g : TG} {tt : TT} {te : TE} {use : Option (Value → Sem Unit)} {Qf : Value → Shared → Prop}
    (hc : X.calm = true) (hN : X.N.Nodup) (I : Inv X pins σ H s) (hi : PI X tg iter wi) (ok : BlkOk X.N X.env.scope scope own)
    (hg : ∀ (s : Shared) (H : Hp) (C : Addr) (cl : List (Str × Addr)) (fp : List Addr), PG (X.blk s H scope (compEnvC scope cl C X.env) fp) tg g) (ht : ∀ (s : Shared) (H : Hp) (C : Addr) (cl : List (Str × Addr)) (fp : List Addr), PTs (X.blk s H scope (compEnvC scope cl C X.env) fp) ifs tt)
    (he : ∀ (s : Shared) (H : Hp) (C : Addr) (cl : List (Str × Addr)) (fp : List Addr), PE (X.blk s H scope (compEnvC scope cl C X.env) fp) elt te) (hs : ∀ x, foldedSetIterable iter X.env x = pure x)
    (h : tLc wi g tt te (own.map (·.2)) σ H Q)
    (hRR : ∀ D C s' m H', Inv X pins σ H' s' → Q (.ref D) H' → s'.heap.Ns C m → FpOk X pins H' C → compPost (model X.prog X.w) X.A X.xe use Qf (.ref D) C (.ok .next) s') :
    wpAny (model X.prog X.w) X.A (comprehension (.ListComp elt [⟨tg, iter, ifs, 0⟩] scope pos) scope X.env pos' (newList []) false (eval iter X.env) use) Qf X.xe s := by
  have hfree : ∀ y ∈ scope.names, y.2 = .free → ∃ c, X.env.cells.lookup y.1 = some c := fun y hy e => by
    rcases ok.free y hy e with k | k
    · exact I.ok.has _ (.inl k)
    · exact I.ok.has _ (.inr k)
  refine wpAny_comprehension_free (use := use) rfl hs (closure_ok hfree) ok.kind (fun y hy e => by rw [ok.uniq y hy, e])
    (thn (hi pins s σ H _ I h) fun xv s1 hx => thn hx fun itv s2 h2 => ?_)
  obtain ⟨it, fp, tn, J, H2, e, I2, T, st2, f2, q⟩ := h2
  subst e
  refine wpAny_newObj_type (newEnv_comp ?_) (by show 0 ≤ sizeLine; decide)
  generalize hD : s2.heap.objs.size = D
  have hDn : H2 D = none := I2.hok.fresh (Nat.le_of_eq hD)
  obtain ⟨W, ⟨m0, w0⟩, turn⟩ := q D hDn
  -- the new list
  generalize hs3 : ({ s2 with heap := s2.heap.push { cls := .type "list", data := .seq ([] : List Value).toArray } } : Shared) = s3
  have I3 : Inv X pins σ (upd H2 D (.lst [])) s3 := by
    rw [← hs3]
    refine I2.laid (t' := s2.toks) (fun b o e => Heap.get?_push_of_some _ e) (Nat.le_of_eq hD) ⟨Nat.zero_le _, [], 0, .nil, ?_⟩
    rw [← hD]
    exact Heap.get?_push_size _ rfl
  have h3 : s3.heap = s2.heap.push { cls := .type "list", data := .seq ([] : List Value).toArray } := by rw [← hs3]
  have sz : ∀ b ∈ fp, b < s2.heap.objs.size := fun b hb => by
    obtain ⟨o, e, _⟩ := T.obj _ _ st2 b hb
    exact Heap.lt_size e
  have f3 : ∀ b ∈ fp, FpOk X pins (upd H2 D (.lst [])) b ∧ b < s3.heap.objs.size := fun b hb => by
    have hlt := sz b hb
    refine ⟨⟨?_, (f2 b hb).2⟩, by rw [h3, Heap.size_push]; exact Nat.lt_succ_of_lt hlt⟩
    rw [upd_ne (by rw [← hD]; exact Nat.ne_of_lt hlt)]
    exact (f2 b hb).1
  have st3 : tn 0 s3.heap := T.keep _ _ _ st2 fun b _ o e => by rw [h3]; exact Heap.get?_push_of_some _ e
  have I4 := block_start I3 ok hN f3
  have pg := hg s3 (upd H2 D (.lst [])) s3.heap.objs.size (cellsFrom (s3.heap.objs.size + 1) scope.names (cloFrom X.env.cells scope.names [])) fp
  have pt := ht s3 (upd H2 D (.lst [])) s3.heap.objs.size (cellsFrom (s3.heap.objs.size + 1) scope.names (cloFrom X.env.cells scope.names [])) fp
  have pe := he s3 (upd H2 D (.lst [])) s3.heap.objs.size (cellsFrom (s3.heap.objs.size + 1) scope.names (cloFrom X.env.cells scope.names [])) fp
  show codeAny _ _ (.compStart (.ListComp elt [⟨tg, iter, ifs, 0⟩] scope pos) 0 (.ref it) (.ref D) (compEnvC scope (cellsFrom (s3.heap.objs.size + 1) scope.names (cloFrom X.env.cells scope.names [])) s3.heap.objs.size X.env)) (compPost (model X.prog X.w) X.A X.xe use Qf (.ref D) s3.heap.objs.size) { s3 with heap := pushCells (s3.heap.push { cls := .type "dict", data := .dict #[] }) scope.names }
  have nfp : ∀ b ∈ fp, (upd H2 D (.lst [])) b = none := fun b hb => (f3 b hb).1.1
  generalize hce : compEnvC scope (cellsFrom (s3.heap.objs.size + 1) scope.names (cloFrom X.env.cells scope.names [])) s3.heap.objs.size X.env = ce at I4 pg pt pe ⊢
  have cL : ce.locals = s3.heap.objs.size := by subst hce; rfl
  generalize hH3 : upd H2 D (.lst []) = H3 at I3 I4 pg pt pe w0 nfp f3
  generalize hs4 : ({ s3 with heap := pushCells (s3.heap.push { cls := .type "dict", data := .dict #[] }) scope.names } : Shared) = s4 at I4 ⊢
  have st4 : tn 0 s4.heap := T.keep _ _ _ st3 fun b _ o e => by rw [← hs4]; exact pushCells_keeps _ _ _ _ (Heap.get?_push_of_some _ e)
  have stat : ∀ {σ' : St} {H' : Hp} {s' : Shared}, Inv (X.blk s3 H3 scope ce fp) [] σ' H' s' → (∀ b ∈ fp, H' b = none) → ∀ b ∈ fp, FpOk (X.blk s3 H3 scope ce fp) [] H' b := fun {σ' H' s'} I' hn b hb =>
    ⟨hn b hb, (I'.ok.exf b hb).1, I'.ok.exfs b hb, .inl hb, fun x c e => (I'.ok.exf b hb).2 x c e, fun p hp => absurd (show p ∈ ([] : List (Addr × Obj)) ++ [] from hp) (by simp)⟩
  have loop : codeAny (model X.prog X.w) X.A (.compLoop (.ListComp elt [⟨tg, iter, ifs, 0⟩] scope pos) 0 (.ref it) (.ref D) ce) (compPost (model X.prog X.w) X.A X.xe use Qf (.ref D) s3.heap.objs.size) s4 := by
    refine compLoop_any (fun n s' => ∃ i H', Inv (X.blk s3 H3 scope ce fp) [] (wipe σ (own.map (·.2))) H' s' ∧ tn i s'.heap ∧ (∀ b ∈ fp, H' b = none) ∧ W i n H') ?_ m0 ⟨0, H3, I4, st4, nfp, w0⟩
    rintro n s5 ⟨i, H5, I5, st5, n5, w5⟩
    rcases turn i n H5 w5 with ⟨stop, qq⟩ | ⟨go, Nx, hNx, step⟩
    · have td := T.done (X.blk s3 H3 scope ce fp) rfl rfl rfl hc i [] s5 _ H5 (fun _ _ => False) I5 (stat I5 n5) st5 stop
      refine thnF td fun r s6 ⟨hr, I6⟩ => ?_
      subst hr
      -- back in the def's context
      have I7 : Inv X pins σ H5 s6 := I3.call' (ch := fp) I6.os I6.base I6.hok I6.bare fun b hb => ⟨(f3 b hb).1.2.2.2.1, (f3 b hb).1.2.1, (f3 b hb).1.2.2.2.2.1, (f3 b hb).1.2.2.2.2.2⟩
      have nC : H5 s3.heap.objs.size = none := by
        have z : H5 ce.locals = none := I6.free
        rw [cL] at z
        exact z
      obtain ⟨m, hn, _⟩ := I6.loc
      have hn : s6.heap.Ns ce.locals m := hn
      rw [cL] at hn
      exact hRR D s3.heap.objs.size s6 m H5 I7 qq hn (I3.fpOk (Nat.le_refl _) nC)
    · have ti := T.item (X.blk s3 H3 scope ce fp) rfl rfl rfl hc i [] s5 _ H5 (fun _ _ => False) I5 (stat I5 n5) st5 go
      refine thnF ti fun r s6 ⟨u, hr, h6⟩ => ?_
      subst hr
      refine thnF h6 fun _ s7 ⟨x, H7, I7, r7, y7, st7, n7⟩ => ?_
      have I7' := I7.pinned (stat I7 n7) (T.obj _ _ st7)
      refine thnF (pg _ s7 _ H7 x u _ I7' r7 (step x H7 y7)) fun _ s8 ⟨σ8, H8, I8, hw8, q8⟩ => ?_
      refine thnF (pt _ s8 σ8 H8 _ I8 q8) fun b s9 ⟨H9, I9, q9⟩ => ?_
      -- the turn's end
      have fin : ∀ {s' : Shared} {H' : Hp}, Inv (X.blk s3 H3 scope ce fp) ([] ++ pinsAt fp s7.heap) σ8 H' s' → Nx H' → ∃ m, m < n ∧ ∃ i H', Inv (X.blk s3 H3 scope ce fp) [] (wipe σ (own.map (·.2))) H' s' ∧ tn i s'.heap ∧ (∀ b ∈ fp, H' b = none) ∧ W i m H' := fun {s' H'} I' nx => by
        obtain ⟨m', hm, w'⟩ := hNx H' nx
        have pin' : ∀ b ∈ fp, ∀ o, s7.heap.get? b = some o → s'.heap.get? b = some o ∧ H' b = none := fun b hb o e =>
          let z := I'.pin (b, o) (List.mem_append_right _ (List.mem_append_right _ (mem_pinsAt hb e)))
          ⟨z.1, z.2.1⟩
        have hl : (wipe σ (own.map (·.2))).length = σ8.length := by rw [← hw8, wipe_length]
        refine ⟨m', hm, i + 1, H', (I'.unpinned (pins := [])).weak hl (fun j v e => ?_), T.keep _ _ _ st7 fun b hb o e => (pin' b hb o e).1, fun b hb => ?_, w'⟩
        · rw [← hw8] at e
          exact (wipe_some e).1
        · obtain ⟨o, e, _⟩ := T.obj _ _ st7 b hb
          exact (pin' b hb o e).2
      cases b with
      | false =>
        simp only [Bool.false_eq_true, if_false] at q9 ⊢
        exact fin I9 q9
      | true =>
        simp only [if_true] at q9 ⊢
        refine thnF (pe _ s9 σ8 H9 _ I9 q9) fun z s10 ⟨yv, H10, I10, r10, acc, hD10, hz10, nx⟩ => ?_
        exact app_ok (X := X.blk s3 H3 scope ce fp) I10 hD10 hz10 r10 fun s11 I11 => fin I11 nx
  exact codeAny_compStart_list loop (T.self X.A 0 _ _ _ st4 loop)
/-- as a value -/
theorem pe_lc {elt tg iter : Expr} {ifs : List Expr} {scope : Scope} {own : List (Str × Nat)} {pos : Pos} {wi : TI} {g : TG} {tt : TT} {te : TE} (hc : X.calm = true) (hN : X.N.Nodup) (hi : PI X tg iter wi) (ok : BlkOk X.N X.env.scope scope own)
    (hg : ∀ (s : Shared) (H : Hp) (C : Addr) (cl : List (Str × Addr)) (fp : List Addr), PG (X.blk s H scope (compEnvC scope cl C X.env) fp) tg g) (ht : ∀ (s : Shared) (H : Hp) (C : Addr) (cl : List (Str × Addr)) (fp : List Addr), PTs (X.blk s H scope (compEnvC scope cl C X.env) fp) ifs tt)
    (he : ∀ (s : Shared) (H : Hp) (C : Addr) (cl : List (Str × Addr)) (fp : List Addr), PE (X.blk s H scope (compEnvC scope cl C X.env) fp) elt te) (hs : ∀ x, foldedSetIterable iter X.env x = pure x := by intro _; rfl) :
    PE X (.ListComp elt [⟨tg, iter, ifs, 0⟩] scope pos) (tLc wi g tt te (own.map (·.2))) := by
  intro pins s σ H Q I h
  rw [eval_ListComp]
  refine lc_core hc hN I hi ok hg ht he hs h fun D C s' m H' I' q hn f => ⟨m, hn, fun h'' sb => ?_⟩
  obtain ⟨f0, f1, f2, f3, f4, f5⟩ := f
  exact ⟨.ref D, H', I'.turned (t' := s'.toks) (fun b o hb e => (sb.2 b hb).trans e) f0 f1 f3 f4 f5, rfl, q⟩
end

/-! ### the forms one uses -/
def blkC (N : List Str) (sc scope : Scope) (own : List (Str × Nat)) : Bool :=
  (match scope.kind with | .function => true | _ => false) && (scope.names.all fun y => decide (scope.names.lookup y.1 = some y.2)) && (own.all fun p => decide (N[p.2]? = some p.1)) &&
    (scope.names.all fun y => match y.2 with
      | .free => (match sc.names.lookup y.1 with | some .cell => true | some .free => true | _ => false)
      | .local => decide (y.1 ∈ own.map (·.1)) || decide (y.1 ∉ N)
      | .cell => decide (y.1 ∈ own.map (·.1)) || decide (y.1 ∉ N)
      | _ => true)
theorem blkOk_by {N : List Str} {sc scope : Scope} {own : List (Str × Nat)} (h : blkC N sc scope own = true) : BlkOk N sc scope own := by
  unfold blkC at h
  simp only [Bool.and_eq_true, List.all_eq_true, decide_eq_true_eq] at h
  obtain ⟨⟨⟨h1, h2⟩, h3⟩, h4⟩ := h
  refine ⟨?_, h2, h3, fun y hy e => ?_, fun y hy e => ?_⟩
  · split at h1
    · assumption
    · cases h1
  · have q := h4 y hy
    simp only [e] at q
    split at q <;> first | exact .inl (by assumption) | exact .inr (by assumption) | cases q
  · have q := h4 y hy
    rcases e with e | e <;> (simp only [e, Bool.or_eq_true, decide_eq_true_eq] at q; exact q)
end L2

namespace L2
open PySem PySem.Spec PyProof.Rows


section
variable {prog : Program} {w : World} {A : Around} {R : Result → Shared → Prop} {s : Shared} {elt t0 i0 t1 i1 : Expr} {ifs0 ifs1 : List Expr} {scope : Scope} {pos : Pos} {it acc : Value} {env : Env}
end

section
variable {X : Cx}
end
end L2

namespace L2
open PySem PySem.Spec PyProof.Rows

/-! ### lists of pairs as tables -/
section
variable {κ : Type} [DecidableEq κ]
def valV (kvs : List (κ × V)) (k : κ) : Option V := (kvs.find? fun kv => decide (kv.1 = k)).map (·.2)
/-- in its place, or at the end -/
def putK (kvs : List (κ × V)) (k : κ) (v : V) : List (κ × V) :=
  if (kvs.any fun kv => decide (kv.1 = k)) = true then kvs.map (fun kv => if kv.1 = k then (kv.1, v) else kv) else kvs ++ [(k, v)]

theorem valV_pos {p : κ × V} {r : List (κ × V)} {k : κ} (e : p.1 = k) : valV (p :: r) k = some p.2 := by simp [valV, List.find?_cons, e]
theorem valV_neg {p : κ × V} {r : List (κ × V)} {k : κ} (e : ¬ p.1 = k) : valV (p :: r) k = valV r k := by simp [valV, List.find?_cons, e]
theorem valV_any (k : κ) : ∀ kvs : List (κ × V), (kvs.any fun kv => decide (kv.1 = k)) = (valV kvs k).isSome
  | [] => rfl
  | p :: r => by
    rw [List.any_cons]
    by_cases e : p.1 = k
    · simp only [valV_pos e, decide_eq_true e, Bool.true_or, Option.isSome_some]
    · rw [valV_neg e, decide_eq_false e, Bool.false_or]; exact valV_any k r
theorem valV_snoc (k j : κ) (y : V) : ∀ kvs : List (κ × V), valV kvs k = none → valV (kvs ++ [(k, y)]) j = if j = k then some y else valV kvs j
  | [], _ => by
    by_cases e : k = j
    · rw [if_pos e.symm]; exact valV_pos (p := (k, y)) e
    · rw [if_neg (fun z => e z.symm)]; exact valV_neg (p := (k, y)) e
  | p :: r, hn => by
    rw [List.cons_append]
    have hk : ¬ p.1 = k := fun z => by rw [valV_pos z] at hn; cases hn
    rw [valV_neg hk] at hn
    have ih := valV_snoc k j y r hn
    by_cases e : p.1 = j
    · rw [valV_pos e, valV_pos e, if_neg (fun z => hk (e.trans z))]
    · rw [valV_neg e, valV_neg e, ih]
theorem length_putK (kvs : List (κ × V)) (k : κ) (v : V) : (putK kvs k v).length ≤ kvs.length + 1 := by
  unfold putK
  split
  · rw [List.length_map]; omega
  · rw [List.length_append, List.length_cons, List.length_nil]; omega
theorem putK_new {kvs : List (κ × V)} {k : κ} (v : V) (h : valV kvs k = none) : putK kvs k v = kvs ++ [(k, v)] := by
  unfold putK
  rw [valV_any, h]
  exact if_neg (by decide)


/-- raw tables of the same keys -/
theorem KV.val {kvs : List (κ × V)} {vs : List (κ × Value)} (r : KV kvs vs) (k : κ) : RelO (valV kvs k) (valueAt vs k) := by
  unfold KV at r
  induction r with
  | nil => exact True.intro
  | @cons p q ps qs h t ih =>
    obtain ⟨h1, h2⟩ := h
    by_cases e : p.1 = k
    · have e' : q.1 = k := h1.symm.trans e
      have b : valueAt (q :: qs) k = some q.2 := by simp [valueAt, List.find?_cons, e']
      rw [valV_pos e, b]; exact h2
    · have e' : ¬ q.1 = k := fun z => e (h1.trans z)
      have b : valueAt (q :: qs) k = valueAt qs k := by simp [valueAt, List.find?_cons, e']
      rw [valV_neg e, b]; exact ih
theorem KV.any {kvs : List (κ × V)} {vs : List (κ × Value)} (r : KV kvs vs) (k : κ) : (kvs.any fun kv => decide (kv.1 = k)) = vs.any fun kv => decide (kv.1 = k) := by
  unfold KV at r
  induction r with
  | nil => rfl
  | cons h t ih => rw [List.any_cons, List.any_cons, ih, h.1]
theorem KV.repl {kvs : List (κ × V)} {vs : List (κ × Value)} (r : KV kvs vs) (k : κ) {y : V} {u : Value} (ry : RelV y u) :
    KV (kvs.map fun kv => if kv.1 = k then (kv.1, y) else kv) (vs.map fun kv => if kv.1 = k then (kv.1, u) else kv) := by
  unfold KV at r ⊢
  induction r with
  | nil => exact .nil
  | @cons p q ps qs h t ih =>
    rw [List.map_cons, List.map_cons]
    refine .cons ?_ ih
    obtain ⟨h1, h2⟩ := h
    by_cases e : p.1 = k
    · rw [if_pos e, if_pos (h1.symm.trans e)]; exact ⟨h1, ry⟩
    · rw [if_neg e, if_neg (fun z => e (h1.trans z))]; exact ⟨h1, h2⟩
theorem KV.put {kvs : List (κ × V)} {vs : List (κ × Value)} (r : KV kvs vs) (k : κ) {y : V} {u : Value} (ry : RelV y u) : KV (putK kvs k y) (stored vs k u) := by
  unfold putK stored
  rw [r.any k]
  by_cases e : (vs.any fun kv => decide (kv.1 = k)) = true
  · rw [if_pos e, if_pos e]; exact r.repl k ry
  · rw [if_neg e, if_neg e]; exact Paired.snoc r ⟨rfl, ry⟩
theorem KV.length {kvs : List (κ × V)} {vs : List (κ × Value)} (r : KV kvs vs) : kvs.length = vs.length := Paired.length r
end


/-! ### a tracked dict, its keys ints and texts or tuples of these -/
theorem kV_is {P : Program} {w : World} {k : Key} {u : Value} (r : RelV (kV k) u) : (mixKind P w).is k u = true := by
  cases k with
  | inl i => obtain ⟨t, e⟩ := (show ∃ t, u = Value.int i t from r); subst e; exact mixKind_int P w i t
  | inr x => obtain ⟨t, e⟩ := (show ∃ t, u = Value.str x t from r); subst e; exact mixKind_str P w x t
theorem items_are {P : Program} {w : World} : ∀ {ks : List Key} {us : List Value}, Vals (ks.map kV) us → ItemsAre (mixKind P w) ks us
  | [], _, r => by rw [List.map_nil] at r; cases r; exact .nil
  | k :: ks, _, r => by
    rw [List.map_cons] at r
    cases r with
    | cons h t => exact .cons (kV_is h) (items_are t)

/-- raw entries of a dict with tuple keys -/
abbrev KT (H : Hp) : List (List Key × V) → List (List Key × Addr × Value) → Prop := Paired fun p q => p.1 = q.1 ∧ H q.2.1 = some (.tup (p.1.map kV)) ∧ RelV p.2 q.2.2
theorem KT.val {H : Hp} {kvs : List (List Key × V)} {xs : List (List Key × Addr × Value)} (r : KT H kvs xs) (k : List Key) : RelO (valV kvs k) ((atKey xs k).map (·.2)) := by
  induction r with
  | nil => exact True.intro
  | @cons p q ps qs h t ih =>
    obtain ⟨h1, _, h2⟩ := h
    by_cases e : p.1 = k
    · have e' : q.1 = k := h1.symm.trans e
      have b : atKey (q :: qs) k = some q.2 := by simp [atKey, List.find?_cons, e']
      rw [valV_pos e, b]; exact h2
    · have e' : ¬ q.1 = k := fun z => e (h1.trans z)
      have b : atKey (q :: qs) k = atKey qs k := by simp [atKey, List.find?_cons, e']
      rw [valV_neg e, b]; exact ih

section
variable {P : Program} {w : World} {H : Hp} {h : Heap} {a : Addr}
theorem rd_of {u : HO} (ok : HOk P w H h) (e : Rd H a u) : ObjOk P w H h a u := e.ok ok
theorem dk_rd {kvs : List (Key × V)} (ok : HOk P w H h) (e : Rd H a (.dK kvs)) : kvs.length ≤ sizeLine ∧ (a == sysModules) = false ∧ ∃ vs, KV kvs vs ∧ h.DictOf (mixKind P w) a vs :=
  show ObjOk P w H h a (.dK kvs) from rd_of ok e
/-- a tracked tuple of ints and texts is a key -/
theorem key_of {ks : List Key} (ok : HOk P w H h) (e : H a = some (.tup (ks.map kV))) : (tupleKind (mixKind P w)).is h ks a := by
  obtain ⟨_, its, r, o, h1, h2, n, h3⟩ := (show ObjOk P w H h a (.tup (ks.map kV)) from ok a _ e)
  exact ⟨o, its.toArray, n, h1, h2, h3, by simpa using items_are r⟩
theorem dt_rd {kvs : List (List Key × V)} (ok : HOk P w H h) (e : Rd H a (.dT kvs)) : kvs.length ≤ sizeLine ∧ (a == sysModules) = false ∧
    ∃ xs, KT H kvs xs ∧ h.DictOfH (tupleKind (mixKind P w)) a xs := by
  obtain ⟨z, y, xs, r, o, es, ep, h1, h2, h3, h4, h5⟩ := (show ObjOk P w H h a (.dT kvs) from rd_of ok e)
  refine ⟨z, y, xs, r, o, es, ep, h1, h2, h3, h4, fun x hx => ?_, h5⟩
  have all : ∀ {l : List (List Key × V)} {m : List (List Key × Addr × Value)}, KT H l m → ∀ x ∈ m, (tupleKind (mixKind P w)).is h x.1 x.2.1 := by
    intro l m q
    induction q with
    | nil => intro x hx; exact nomatch hx
    | @cons p q ps qs hq t ih =>
      intro x hx
      rcases List.mem_cons.mp hx with e | hx
      · subst e
        exact key_of ok (by rw [← hq.1]; exact hq.2.1)
      · exact ih x hx
  exact all r x hx
end

/-- what the dict at a holds at the key y -/
def DGet (H : Hp) (a : Addr) (y : V) (r : Option V) : Prop :=
  (∃ kvs k, Rd H a (.dK kvs) ∧ y = kV k ∧ r = valV kvs k) ∨ ∃ kvs k b, Rd H a (.dT kvs) ∧ y = .ref b ∧ H b = some (.tup (k.map kV)) ∧ r = valV kvs k
/-- the heap behind a[y] = v -/
def DPut (H : Hp) (a : Addr) (y v : V) (H' : Hp) : Prop :=
  (∃ kvs k, H a = some (.dK kvs) ∧ y = kV k ∧ kvs.length < sizeLine ∧ H' = upd H a (.dK (putK kvs k v))) ∨
  ∃ kvs k b, H a = some (.dT kvs) ∧ y = .ref b ∧ H b = some (.tup (k.map kV)) ∧ kvs.length < sizeLine ∧ H' = upd H a (.dT (putK kvs k v))
theorem DGet.k {H : Hp} {a : Addr} {kvs : List (Key × V)} {k : Key} (e : H a = some (.dK kvs)) : DGet H a (kV k) (valV kvs k) := .inl ⟨kvs, k, .inl e, rfl, rfl⟩


section
variable {X : Cx} {pins : List (Addr × Obj)} {σ : St} {H : Hp} {s : Shared} {a : Addr} {y v : V} {u r : Value} {o : Option V} {A : Around} {E : Value → Shared → Prop}

theorem Inv.big (I : Inv X pins σ H s) : sysModules < s.heap.objs.size := by
  have h : mainGlobals < s.heap.objs.size := (I.mod.glob.keeps I.bk).lt
  exact Nat.lt_trans (by decide) h

/-- d[y], there -/
theorem d_getItem {Q : Value → Shared → Prop} (hu : A.units + 1 < cLine) (I : Inv X pins σ H s) (g : DGet H a y (some v)) (ry : RelV y u) (h : ∀ w' s', Inv X pins σ H s' → RelV v w' → Q w' s') :
    wpAny (model X.prog X.w) A (getItem (.ref a) u) Q E s := by
  rcases g with ⟨kvs, k, e, ey, l⟩ | ⟨kvs, k, b, e, ey, eb, l⟩
  · subst ey
    obtain ⟨z, hd, vs, rel, dd⟩ := dk_rd I.hok e
    obtain ⟨w', hw, rw'⟩ := RelO.some_of (v := v) (o := valueAt vs k) (by rw [l]; exact rel.val k)
    exact wpAny_getItem_of (kV_is ry) dd.mapOf hw (h w' _ (I.tok _) rw')
  · subst ey
    cases (show u = Value.ref b from ry)
    obtain ⟨z, hd, xs, rel, dd⟩ := dt_rd I.hok e
    obtain ⟨w', hw, rw'⟩ := RelO.some_of (v := v) (o := (atKey xs k).map (·.2)) (by rw [l]; exact rel.val k)
    obtain ⟨p, hp, hp2⟩ := Option.map_eq_some_iff.mp hw
    refine wpAny_getItem_heap (tupleKind_room_in1 hu) (key_of I.hok eb) dd hp ?_
    rw [hp2]
    exact h w' _ (I.tok _) rw'
end

section
variable {X : Cx} {pins : List (Addr × Obj)} {σ : St} {H : Hp} {s : Shared} {a : Addr} {kvs : List (Key × V)} {k : Key} {u : Value} {A : Around} {E : Value → Shared → Prop}
end


/-! ### readings and rules -/
/-- the element of a subscription, not a slice -/
def NoSl (i : Expr) : Prop := ∀ ov iv, subscripted i false ov iv = operate [ov, iv] (getItem ov iv)
theorem subD_of {prog : Program} {w : World} {A : Around} {E : Value → Shared → Prop} {s : Shared} {env : Env} {value slice : Expr} {pos : Pos} {T id : String} {Q : Value → Shared → Prop}
    (hl : typeLookup (.type T) "__getitem__" = pure (some (.builtin id))) (hs : NoSl slice)
    (h : wpAny (model prog w) A (eval value env) (fun o s₁ => wpAny (model prog w) A (eval slice env) (fun i s₂ => s₂.TypeIs o T ∧ wpAny (model prog w) A (getItem o i) Q E s₂) E s₁) E s) :
    wpAny (model prog w) A (eval (.Subscript value slice pos) env) Q E s := by
  refine Subscript_ (wpAny_mono h (fun o s₁ h₁ => wpAny_mono h₁ (fun i s₂ h₂ => ?_) fun _ _ x => x) fun _ _ x => x)
  obtain ⟨hT, h₂⟩ := h₂
  unfold subscriptTail
  refine wpAny_bind ?_
  rw [getitemInPython_of_ne hT.not_modules]
  refine wpAny_bind (wpAny_specialOf hT hl ?_)
  have fin : wpAny (model prog w) A (subscripted slice false o i) (fun r s₃ => wpAny (model prog w) A (letTemporaryGo value o r >>= fun _ => pure r) Q E s₃) E s₂ := by
    rw [hs o i]
    exact wpAny_operating (wpAny_mono h₂ (fun r s₃ h₃ => wpAny_bind (wpAny_letTemporaryGo (wpAny_pure h₃))) fun _ _ x => x)
  first
    | exact wpAny_pure (wpAny_bind fin)
    | exact wpAny_bind (wpAny_pure (wpAny_bind fin))
    | exact wpAny_bind fin

theorem dict_typeIs {X : Cx} {pins : List (Addr × Obj)} {σ : St} {H : Hp} {s : Shared} {a : Addr} {y : V} {o : Option V} (I : Inv X pins σ H s) (g : DGet H a y o) : s.TypeIs (.ref a) "dict" := by
  rcases g with ⟨kvs, k, e, _, _⟩ | ⟨kvs, k, b, e, _, _, _⟩
  · obtain ⟨_, _, vs, _, dd⟩ := dk_rd I.hok e
    exact dd.typeIs
  · obtain ⟨_, _, xs, _, dd⟩ := dt_rd I.hok e
    exact dd.typeIs

/-- d[y] -/
def tDGet (td ty : TE) : TE := fun σ H Q => td σ H fun x H1 => ty σ H1 fun y H2 => ∃ a v, x = .ref a ∧ DGet H2 a y (some v) ∧ Q v H2
/-- y in d, y not in d -/
def tDIn (ty td : TE) : TE := fun σ H Q => ty σ H fun y H1 => td σ H1 fun x H2 => ∃ a o, x = .ref a ∧ DGet H2 a y o ∧ Q (.bl o.isSome) H2
def tDNotIn (ty td : TE) : TE := fun σ H Q => ty σ H fun y H1 => td σ H1 fun x H2 => ∃ a o, x = .ref a ∧ DGet H2 a y o ∧ Q (.bl (!o.isSome)) H2
/-- d[y] = v -/
def sDPut (td ty tv : TE) : TS := fun D σ H => tv σ H fun v H1 => td σ H1 fun x H2 => ty σ H2 fun y H3 => ∃ a H4, x = .ref a ∧ DPut H3 a y v H4 ∧ D.nx σ H4

section
variable {X : Cx} {o i e value : Expr} {pos pos' tpos : Pos} {td ty tv : TE}
theorem pe_dget (hu : X.A.units + 1 < cLine) (ho : PE X o td) (hi : PE X i ty) (hs : NoSl i) : PE X (.Subscript o i pos) (tDGet td ty) := by
  intro pins s σ H Q I h
  refine subD_of PySem.F.slot_dict_getitem.lookup hs (thn (ho pins s σ H _ I h) fun u s1 ⟨x, H1, I1, rx, q1⟩ => thn (hi pins s1 σ H1 _ I1 q1) fun iv s2 ⟨y, H2, I2, ry, a, v, ex, g, q2⟩ => ?_)
  subst ex
  obtain rfl : u = Value.ref a := rx
  exact ⟨dict_typeIs I2 g, d_getItem hu I2 g ry fun w' s3 I3 rw' => ⟨v, H2, I3, rw', q2⟩⟩
end


/-! ### displays -/
/-- {}, to be a dict of the kind that is wanted -/
def tDNewK : TE := fun _ H Q => ∀ p, H p = none → Q (.ref p) (upd H p (.dK []))
section
variable {X : Cx} {pos : Pos}
end


def mergeK (kvs more : List (Key × V)) : List (Key × V) := more.foldl (fun acc kv => putK acc kv.1 kv.2) kvs
theorem KV.merge : ∀ {more : List (Key × V)} {rs : List (Key × Value)} {kvs : List (Key × V)} {vs : List (Key × Value)}, KV more rs → KV kvs vs → KV (mergeK kvs more) (merged vs rs) := by
  intro more rs kvs vs r
  unfold KV at r
  induction r generalizing kvs vs with
  | nil => intro q; exact q
  | @cons p q ps qs h t ih =>
    intro r0
    have e : KV (putK kvs p.1 p.2) (stored vs q.1 q.2) := by
      have := r0.put p.1 h.2
      rw [← h.1]; exact this
    exact ih e
theorem length_mergeK : ∀ (more kvs : List (Key × V)), (mergeK kvs more).length ≤ kvs.length + more.length
  | [], kvs => by show kvs.length ≤ kvs.length + 0; omega
  | p :: r, kvs => by
    have h1 := length_mergeK r (putK kvs p.1 p.2)
    have h2 := length_putK kvs p.1 p.2
    show (mergeK (putK kvs p.1 p.2) r).length ≤ _
    rw [List.length_cons]; omega


/-! ### methods -/


section
variable {X : Cx} {pins : List (Addr × Obj)} {σ : St} {H : Hp} {s : Shared} {a : Addr} {y d : V} {u r : Value} {o : Option V} {A : Around} {E : Value → Shared → Prop}
end

section
variable {X : Cx} {o e f : Expr} {apos cpos : Pos} {td ty tx : TE}
end

/-! ### dict(d): a copy -/
section
variable {X : Cx} {pins : List (Addr × Obj)} {σ : St} {H : Hp} {s : Shared} {a : Addr} {kvs : List (Key × V)} {A : Around} {E : Value → Shared → Prop}
end


section
variable {X : Cx} {pins : List (Addr × Obj)} {σ : St} {H : Hp} {s : Shared} {a : Addr} {y : V} {u : Value} {A : Around} {E : Value → Shared → Prop}
end
end L2

namespace L2
open PySem PySem.Spec PyProof.Rows

theorem ud_entry : entryFor table "dict.update.loop" = some Builtin.«dict.update.loop» := entryFor_of_tree (by kernel_rfl)
theorem ud_plain : plainId "dict.update.loop" = true := by decide +kernel

section
variable {prog : Program} {w : World} {A : Around} {E : Value → Shared → Prop}


end

section
variable {X : Cx}
end
end L2

namespace L2
open PySem PySem.Spec PyProof.Rows


section
variable {X : Cx} {pins : List (Addr × Obj)} {σ : St} {H : Hp} {s : Shared} {h' : Heap}
/-- .. and one new object is laid -/
theorem Inv.turnedNew {t' : Nat} {ch : List Addr} {T : Addr} {ob : HO} (I : Inv X pins σ H s) (k : ∀ b o, b ∉ ch → s.heap.get? b = some o → h'.get? b = some o) (hf : ∀ b ∈ ch, FpOk X pins H b) (hT : s.heap.objs.size ≤ T)
    (new : ObjOk X.prog X.w (upd H T ob) h' T ob) : Inv X pins σ (upd H T ob) { s with heap := h', toks := t' } := by
  have hn : H T = none := I.hok.fresh hT
  have nit : ∀ b u, H b = some u → b ∉ ch := fun b u e z => by
    have q := (hf b z).1
    rw [q] at e; cases e
  refine I.step (g' := s.gens) (d' := s.drawn) (ch := ch) (fun b hb => ⟨(hf b hb).2.2.2.1, (hf b hb).2.1, (hf b hb).2.2.2.2.1, (hf b hb).2.2.2.2.2⟩) (fun b o _ _ hc e _ => k b o hc e) (fun b o _ _ hc e _ => ⟨o.slots, k b o hc e⟩)
    (fun b o _ e n => ?_) (fun b o hc e => ⟨o, k b o hc e⟩) (fun b xs e => ?_) (fun b o u e => ?_) (fun b ps e => ⟨#[], ?_⟩) (fun m hm => ?_) (fun b u e => ?_) I.bare
  · rw [upd_ne (Nat.ne_of_lt (Nat.lt_of_lt_of_le (Heap.lt_size e) hT))]; exact n
  · rw [upd_ne (ne_of_none e hn)]; exact e
  · rw [upd_ne (ne_of_none e hn)]; exact e
  · rw [upd_ne (ne_of_none e hn), e]; simp
  · obtain ⟨o, es, ep, ho, r⟩ := hm
    exact ⟨o, es, ep, k _ o (fun z => (hf _ z).2.1 rfl) ho, r⟩
  · by_cases hb : b = T
    · subst hb
      rw [upd_same] at e
      cases e
      exact new
    · rw [upd_ne hb] at e
      refine (I.hok b u e).stay (fun c v hc q => k c v ?_ q) (fun c q => by rw [upd_ne (ne_of_none q hn)]; exact q) fun c xs q => by rw [upd_ne (ne_of_none q hn)]; exact q
      rcases hc with z | z
      · rw [z]; exact nit b u e
      · exact nit c _ z

/-! ### locking a thing while a statement runs -/
end
section
variable {X : Cx}

/-! ### one iterator just laid -/
end

/-! ### range with a step -/
/-- lo, lo + c, .. (n of them) -/
def Itc (lo c : Int) (n : Nat) : It := ⟨fun i _ => i < n, fun i H x H' => H' = H ∧ x = .int (lo + (i : Nat) * c), fun i _ => n ≤ i⟩
/-- range(i, j, c): small bounds, n items -/
def RgC (i j c : Int) (n : Nat) : Prop := c ≠ 0 ∧ c.natAbs < 1073741824 ∧ Builtin.Range.small i j c = true ∧ Builtin.Range.rangeSize i j c = n
def iRng3 (ta : TA) : TI := fun σ H R => ta σ H fun vs H1 => ∃ (i j c : Int) (n : Nat), vs = [.int i, .int j, .int c] ∧ RgC i j c n ∧ R (Itc i c n) H1
section
variable {X : Cx} {tg : Expr}
end

/-! ### reversed(list) -/
section
variable {X : Cx} {tg : Expr}
end

/-! ### a str -/

/-! ### a dict's keys: any dict's entries -/
section
variable {prog : Program} {w : World} {A : Around} {E : Value → Shared → Prop} {s : Shared}
end

/-! ### a locked dict -/
section
variable {X : Cx} {pins : List (Addr × Obj)} {σ : St} {H : Hp} {s : Shared} {d : Addr} {o : Obj}
end

section
variable {P : Program} {w : World} {K : PySem.W.Frag} {tg : Expr} {d : Addr} {o : Obj} {es : Array DictEntry} {ep : Nat}
end

/-! ### for k in d, d.keys(), d.values(), d.items() -/
section
variable {X : Cx} {tg e : Expr} {td : TE} {apos cpos : Pos}
end

/-! ### enumerate(list) -/
/-- the list at a as it stands at each turn, each item in a new pair -/
def Ite (K : PySem.W.Frag) (a : Addr) : It :=
  ⟨fun i H => ∃ (xs : List V) (x : V), SqL K H a xs ∧ xs[i]? = some x, fun i H v H' => ∃ T x, v = .ref T ∧ H T = none ∧ H' = upd H T (.tup [.int (i : Nat), x]) ∧ ∀ xs, SqL K H a xs → xs[i]? = some x, fun i H => ∃ xs : List V, SqL K H a xs ∧ xs.length ≤ i⟩
theorem turn_enum {P : Program} {w : World} {K : PySem.W.Frag} {elts : List Expr} {kk : Nat} {tpos : Pos} (a e it : Addr) :
    Turn P w K (.Tuple elts kk tpos) (Ite K a) [e, it] e (fun i h => (∃ old, IsEnum h e it ((i : Nat) : Int) old) ∧ h.IsListIter it a i ∧ e ≠ it) where
  mem := by simp
  obj := fun i h st b hb => by
    obtain ⟨⟨old, he⟩, ⟨o, ho, hc, hd⟩, _⟩ := st
    have e' : b = e ∨ b = it := by simpa using hb
    rcases e' with z | z
    · rw [z]; exact ⟨_, he, fun v q => nomatch q⟩
    · rw [z]; exact ⟨o, ho, fun v q => by rw [hd] at q; cases q⟩
  keep := fun i h h' st k => let ⟨⟨old, he⟩, hi, hne⟩ := st; ⟨⟨old, k e (by simp) _ he⟩, hi.at fun o q => k it (by simp) o q, hne⟩
  item := by
    intro X hP hw hK hc i pins s σ H E I hf st hg
    subst hP hw hK
    obtain ⟨⟨old, he⟩, hit, hne⟩ := st
    obtain ⟨xs, x, hq, hx⟩ := hg
    obtain ⟨its, rv, p, hz⟩ := I.list hq
    obtain ⟨u, hu, ru⟩ := rv.get hx
    have hel : e < s.heap.objs.size := Heap.lt_size he
    have hil : it < s.heap.objs.size := by obtain ⟨_, q, _⟩ := hit; exact Heap.lt_size q
    refine wpAny_pyNext_enum_item he hit p.isList (x := u) (by simpa using hu) hne fun h' ho hit' hT hsz hk => ?_
    refine ⟨_, rfl, wpAny_letOwnedTupleGo_enum (s := { s with heap := h', toks := s.toks + 1 }) ho fun h'' he' sb => ?_⟩
    have hT2 : h''.get? s.heap.objs.size = some { cls := .type "tuple", data := .seq #[.int i s.toks, u] } := (sb.2 _ (Nat.ne_of_gt hel)).trans hT
    have new : ObjOk X.prog X.w (upd H s.heap.objs.size (.tup [.int (i : Nat), x])) h'' s.heap.objs.size (.tup [.int (i : Nat), x]) :=
      ⟨by show 2 ≤ sizeLine; decide, [.int i s.toks, u], .cons ⟨_, rfl⟩ (.cons ru .nil), ⟨_, hT2, rfl, _, rfl⟩⟩
    have I1 : Inv X pins σ (upd H s.heap.objs.size (.tup [.int (i : Nat), x])) { s with heap := h'', toks := s.toks + 1 } :=
      I.turnedNew (ch := [e, it]) (fun b ob hb q => (sb.2 b (fun z => hb (by simp [z]))).trans (hk b ob (fun z => hb (by simp [z])) (fun z => hb (by simp [z])) q)) hf (Nat.le_refl _) new
    refine ⟨.ref s.heap.objs.size, _, I1, rfl, ⟨_, x, rfl, I.hok.fresh (Nat.le_refl _), rfl, fun ys hy => by rw [I.list_inj hy hq]; exact hx⟩, ⟨⟨u, ?_⟩, hit'.at fun o q => (sb.2 it (Ne.symm hne)).trans q, hne⟩, fun b hb => ?_⟩
    · have e1 : ((i + 1 : Nat) : Int) = (i : Int) + 1 := by omega
      rw [e1]; exact he'
    · have hb' : b < s.heap.objs.size := by
        have e' : b = e ∨ b = it := by simpa using hb
        rcases e' with z | z
        · rw [z]; exact hel
        · rw [z]; exact hil
      rw [upd_ne (Nat.ne_of_lt hb')]
      exact (hf b hb).1
  done := by
    intro X hP hw hK hc i pins s σ H E I hf st hg
    subst hP hw hK
    obtain ⟨⟨old, he⟩, hit, hne⟩ := st
    obtain ⟨xs, hq, hx⟩ := hg
    obtain ⟨its, rv, p, hz⟩ := I.list hq
    obtain ⟨f0, f1, f2, f3, f4, f5⟩ := hf it (by simp)
    have hl := rv.length
    exact wpAny_pyNext_enum_end (I.ok.hd hc) he hit p.isList (by simp; omega) fun h' eb => ⟨rfl, I.turned (t' := s.toks) (fun b o hb q => eb b o hb q) f0 f1 f3 f4 f5⟩
  self := fun A i s Q E st h => let ⟨⟨_, he⟩, _⟩ := st; wpAny_pyIter_enum he h
def iEnum (K : PySem.W.Frag) (ta : TA) : TI := fun σ H R => ta σ H fun vs H1 => ∃ a xs, vs = [.ref a] ∧ SqL K H1 a xs ∧ R (Ite K a) H1
theorem pi_enum {X : Cx} {e : Expr} {ta : TA} {p pos tpos : Pos} {elts : List Expr} {kk : Nat} (hg : Gl X "enumerate") (hm : X.mg "enumerate" = none) (ha : PA X [e] ta) (hs : starEach [e] X.env = [(false, eval e X.env)] := by rfl) :
    PI X (.Tuple elts kk tpos) (.Call (.Name "enumerate" p) [e] [] pos) (iEnum X.K ta) := by
  intro pins s σ H R I h
  refine Call_ (ld_blt I hg hm boot_enumerate (PyProof.Rows.callWith_type1 (thn (ha pos pins s σ H _ I h) fun us s1 ⟨vs, H1, I1, r1, q1⟩ => ?_) hs rfl))
  obtain ⟨a, xs, ex, hq, q⟩ := q1
  subst ex
  cases r1 with
  | cons r rr =>
    cases rr
    cases r
    obtain ⟨its, rv, p', hz⟩ := I1.list hq
    refine call_enumerate_list p'.isList fun h' he hit hsz hk => wpAny_pyIter_enum he ?_
    have I2 : Inv X pins σ H1 { s1 with heap := h' } := I1.kept (t' := s1.toks) hk
    refine ⟨s1.heap.objs.size + 1, [s1.heap.objs.size + 1, s1.heap.objs.size], _, _, H1, rfl, I2, turn_enum a (s1.heap.objs.size + 1) s1.heap.objs.size, ⟨⟨.none, he⟩, hit, Nat.succ_ne_self _⟩, fun b hb => ?_, q⟩
    have e' : b = s1.heap.objs.size + 1 ∨ b = s1.heap.objs.size := by simpa using hb
    have hle : s1.heap.objs.size ≤ b := by
      rcases e' with z | z
      · rw [z]; exact Nat.le_add_right _ _
      · rw [z]; exact Nat.le_refl _
    exact I1.fpOk hle (I1.hok.fresh hle)
/-! ### zip(list, list) -/
theorem boot_zip5 : bootBuiltins "zip" = some (.type "zip") := by decide +kernel
/-- the lists at a and b as they stand at each turn, the items in new pairs -/
def Itz (K : PySem.W.Frag) (a b : Addr) : It :=
  ⟨fun i H => ∃ (xs ys : List V) (x y : V), SqL K H a xs ∧ SqL K H b ys ∧ xs[i]? = some x ∧ ys[i]? = some y,
    fun i H v H' => ∃ T x y, v = .ref T ∧ H T = none ∧ H' = upd H T (.tup [x, y]) ∧ (∀ xs, SqL K H a xs → xs[i]? = some x) ∧ ∀ ys, SqL K H b ys → ys[i]? = some y,
    fun i H => ∃ xs ys : List V, SqL K H a xs ∧ SqL K H b ys ∧ (xs.length ≤ i ∨ ys.length ≤ i)⟩
def iZip (K : PySem.W.Frag) (ta : TA) : TI := fun σ H R => ta σ H fun vs H1 => ∃ a b xs ys, vs = [.ref a, .ref b] ∧ SqL K H1 a xs ∧ SqL K H1 b ys ∧ R (Itz K a b) H1
end L2

section 
namespace Bits
open PySem PyProof.Rows








end Bits
end 

section 
namespace TL
open PySem PySem.Builtin PySem.Builtin.Str PySem.StrLaws

abbrev tl (x : Str) : List Nat := x.cps.toList

/-! ### the list functions -/




/-! ### the model's split and partition are these -/




/-! ### computing spl and par -/


/-! ### digits -/

/-! ### words: x.split() -/
end TL
end 

namespace L2
open PySem PySem.Spec PyProof.Rows




section
variable {X : Cx} {pins : List (Addr × Obj)} {σ : St} {H : Hp} {s : Shared} {Q : VK}
end

section
variable {X : Cx}





/-! ### of a text alone -/

/-! ### of a text and a text -/

end

section
variable {X : Cx} {o e : Expr} {to te : TE}

end
end L2

namespace L2
open PySem PySem.Spec PyProof.Rows

section
variable {X : Cx}
end

/-! ### slices of a text -/


end L2

namespace Att
open PySem PySem.W PySem.Calls PyProof.Rows

/-! ### the script -/



/-! ### the attachment: holds_open's last premise (the goal 'hc' behind k_head) from a wpAny of the law's body -/



/-! ### rules over ANY heap (no ledger) from facts about the written part K: the library's own take a ledger (News) for what they write -/
section
variable {prog : Program} {w : World} {A : Around} {E : Value → Shared → Prop} {s : Shared} {K : Frag}





/-! the whole heap as the ledger: makes every rule that writes through a ledger a rule over any heap -/

end
end Att

namespace L2
open PySem PySem.Spec PyProof.Rows



end L2

namespace L2
open PySem PySem.Spec PyProof.Rows


end L2

/- THE LAST THEOREM (shape; LID, My.* are yours):
   My.Adr: a structure of the addresses that your layer names (classes, functions); My.Txt K t: a structure (Prop) of the equations over K;
   My.txt_mk : {K} {implicit addresses ..} (e1 : nsIn K mainGlobals "law" = some (some (.ref f))) (e2 : K.lookup f = some ⟨oc, od, .func (fnOf "law" "law" params body scope dV kV doc pm an cdv ct), sl⟩) (e3 : codeIn K cdv "law" = true) .. : ∃ t, My.Txt K t

set_option maxRecDepth 100000 in
set_option maxHeartbeats 0 in
theorem PySem.Challenge.cw_LID_holds : PySem.Challenge.rw_LID.Holds := by
  w_on; o_law; k_head; (case hw => w_witness2)
  k_fill
  refine L2.walk_of (l := PySem.Challenge.rw_LID) (n := 63) (k := 40) (x := "script") (CX := fun w => ..) (sp := fun _ => My.sp_law) rfl (by decide) rfl ⟨rfl, by decide, by decide⟩ (fun w h Y => PySem.W.kIn_of Y) ?F ?S ?C
  case F =>
    intro w mg fa h KX G hmg
    have T : ∃ t, My.Txt (L2.KOf KX) t := by
      dsimp only [L2.KOf]                          -- K must stand as «<heap const> w.params» for k_is
      refine' My.txt_mk ?e1 ?e2 ?e3 ..
      (case e1 => PySem.W.k_is)                    -- in the order: a name -> its address -> its object -> its parts
      (case e2 => PySem.W.k_is)
      ..
    obtain ⟨t, T⟩ := T
    have e0 := hmg.symm.trans (PySem.W.mg_of KX G T.law)
    cases e0                                       -- fa is the law's own address
    exact ⟨_, fun s u => .of_eq rfl, fun base kb nb => My.law_fn T kb nb⟩     -- if «.of_eq rfl» comes too early: refine' ⟨_, ?b, fun base kb nb => My.law_fn T kb nb⟩; exact fun s u => .of_eq rfl
  case S => exact fun w H a ns hl hO hS => ..
  case C => exact ..
(the tactic k_is has no namespace: write k_is) -/

/-! SHORT WORDS over the layer: a def of the text, its body, what a loop and a test want. -/
namespace L2
open PySem PySem.Spec PyProof.Rows

/-! ### the text by places -/
def defArgs (s : Stmt) : Arguments := match s with
  | .FunctionDef _ a _ _ _ _ _ _ _ _ => a
  | _ => { posonlyargs := [], args := [], vararg := none, kwonlyargs := [], kw_defaults := [], kwarg := none, defaults := [] }
def defBody (s : Stmt) : List Stmt := match s with
  | .FunctionDef _ _ b _ _ _ _ _ _ _ => b
  | _ => []
def defScope (s : Stmt) : Scope := match s with
  | .FunctionDef _ _ _ _ _ _ sc _ _ _ => sc
  | _ => { kind := .function, names := [], isGenerator := false, isCoroutine := false }

/-! ### no exception leaves a def -/
abbrev CX0 : CXT := fun _ _ _ _ _ _ => False
abbrev E0 : XK := fun _ _ _ => False
theorem pass0 {X : Cx} : Passes CX0 X E0 := fun _ _ _ _ _ _ _ h => h.elim

/-! ### a def (or method) of the text as it stands behind the top -/
structure Fun (K : PySem.W.Frag) (x qual : Str) (st : Stmt) (f : Addr) (fd : FuncData) : Prop where
  ex : ∃ (oc : Value) (od : Option Addr) (kV doc pm : Value) (an : Option Addr) (cdv ct : Value) (osl : Array (Option Value)),
    fd = PySem.W.fnOf x qual (defArgs st) (defBody st) (defScope st) .none kV doc pm an cdv ct ∧ K.lookup f = some ⟨oc, od, .func fd, osl⟩ ∧ PySem.W.codeIn K cdv qual = true
  kp : PySem.W.keepIn K (.ref f) = true
section
variable {P : Program} {w : World} {K : PySem.W.Frag} {mg : Str → Option Value} {base : Heap}
/-- THE RULE for a def: its body as a term of rules, and the reading of that term -/
theorem Fun.ok {x qual : Str} {st : Stmt} {f : Addr} {fd : FuncData} {N ps : List Str} {k : Nat} {sp : Sp} (F : Fun K x qual st f fd) (S : FnScope N ps (defScope st)) (len : ∀ vs H Q E, sp vs H Q E → vs.length = ps.length)
    (hbody : ∀ (cdv : Value) (A : Around) (outer : List Env) (s : Shared) (H : Hp) (vs : List V) (Q : VK) (E : XK), Room k (A.deeper (envOfC qual (defScope st) s.heap.objs.size f cdv)) → sp vs H Q E →
      ∃ t, PSs (cxOf CX0 P w K mg base N qual (defScope st) f cdv A outer s H E).nox (defBody st) t ∧ t { nx := fun _ H' => Q .non H', rt := Q } (start N vs) H) : FnOk P w K mg base CX0 (k + 1) f fd ps sp := by
  obtain ⟨oc, od, kV, doc, pm, an, cdv, ct, osl, rfl, lk, hcd⟩ := F.ex
  refine fn_of lk hcd S len fun A outer s H vs Q E hr hsp => ?_
  obtain ⟨t, h, q⟩ := hbody cdv A outer s H vs Q E hr hsp
  exact ⟨t, h.nox, q⟩
/-- how its arguments bind (no defaults): h is «fun _ _ _ _ _ _ us hl => match us, hl with | [_, _], _ => rfl», one _ a parameter -/
theorem Fun.binds {x qual : Str} {st : Stmt} {f : Addr} {fd : FuncData} {ps : List Str} (F : Fun K x qual st f fd)
    (h : ∀ (kV doc pm : Value) (an : Option Addr) (cdv ct : Value) (us : List Value), us.length = ps.length → bindArgs (PySem.W.fnOf x qual (defArgs st) (defBody st) (defScope st) .none kV doc pm an cdv ct) ⟨us, []⟩ = pure (ps.zip us)) : Binds K fd ps [] := by
  obtain ⟨oc, od, kV, doc, pm, an, cdv, ct, osl, rfl, lk, hcd⟩ := F.ex
  exact .all (h kV doc pm an cdv ct)
theorem fun_mk {x qual : Str} {st : Stmt} {f : Addr} {oc : Value} {od an : Option Addr} {osl : Array (Option Value)} {kV doc pm cdv ct : Value} (l : K.lookup f = some ⟨oc, od, .func (PySem.W.fnOf x qual (defArgs st) (defBody st) (defScope st) .none kV doc pm an cdv ct), osl⟩)
    (c : PySem.W.codeIn K cdv qual = true) (k : PySem.W.keepIn K (.ref f) = true) : Fun K x qual st f (PySem.W.fnOf x qual (defArgs st) (defBody st) (defScope st) .none kV doc pm an cdv ct) := ⟨⟨oc, od, kV, doc, pm, an, cdv, ct, osl, rfl, l, c⟩, k⟩
end
theorem hu_of {A : Around} {k : Nat} (hr : Room k A) : A.units + 1 < cLine := Nat.lt_of_le_of_lt (Nat.add_le_add_left (by decide : 1 ≤ 64) _) hr.units

/-! ### expressions in short: the name that stands in the i-th slot -/
section
variable {X : Cx}
theorem pv (i : Nat) {x : Str} {pos : Pos} (hN : X.N[i]? = some x := by rfl) (hv : Vis X.env.scope x := by first | exact Or.inl rfl | exact Or.inr (Or.inl rfl) | exact Or.inr (Or.inr rfl)) (hd : (x == ("__debug__" : Str)) = false := by decide)
    (hcd : (x == ("__classdict__" : Str)) = false := by decide) : PE X (.Name x pos) (tVar i) := pe_var hN hv hd hcd
end

/-! ### tests -/
theorem iteF {A B : Prop} (h : B) : if false = true then A else B := by
  rw [if_neg Bool.false_ne_true]
  exact h
theorem iteT {A B : Prop} (h : A) : if true = true then A else B := by
  rw [if_pos rfl]
  exact h

/-! ### heaps -/
/-- all that was tracked is as it was -/
def Same (H H' : Hp) : Prop := ∀ b o, H b = some o → H' b = some o
theorem Same.refl (H : Hp) : Same H H := fun _ _ h => h
theorem Same.trans {H H1 H2 : Hp} (a : Same H H1) (b : Same H1 H2) : Same H H2 := fun c o h => b c o (a c o h)
theorem Same.seq {K : PySem.W.Frag} {H H' : Hp} {a : Addr} {xs : List V} (e : Same H H') (h : SqL K H a xs) : SqL K H' a xs := by
  rcases h with (h | ⟨o, h⟩) | h
  · exact .inl (.inl (e _ _ h))
  · exact .inl (.inr ⟨o, e _ _ h⟩)
  · exact .inr h

/-! ### a dict's pairs: keys that differ -/
section
variable {κ : Type} [DecidableEq κ]
end
/-! ### lists -/
theorem at_of {xs : List V} {z : Int} {j : Nat} {v : V} (e : z = (j : Int)) (h : xs[j]? = some v) : atI xs z = some v := by
  rw [e]
  exact atI_nat h
end L2

section
set_option Elab.async false
set_option linter.all false
set_option maxRecDepth 100000
set_option maxHeartbeats 2000000
namespace L2
open PySem PySem.Spec PyProof.Rows
open PySem.W (WData Codec OpenSpec Well WellAll ReadsW ReadsAllW)
/-! ### an answer as data -/
mutual
/-- x stands for the datum d, lists and tuples all the way -/
inductive Dw (K : PySem.W.Frag) (H : Hp) : V → WData → Prop
  | non : Dw K H .non .none
  | bl (b : Bool) : Dw K H (.bl b) (.bool b)
  | int (i : Int) : Dw K H (.int i) (.int i)
  | str (x : Str) : Dw K H (.str x) (.str x)
  | byt (b : Array UInt8) : Dw K H (.byt b) (.bytes b.toList)
  | lst {a : Addr} {xs : List V} {ds : List WData} : SqL K H a xs → DwAll K H xs ds → Dw K H (.ref a) (.list ds)
  | tup {a : Addr} {xs : List V} {ds : List WData} : SqT K H a xs → DwAll K H xs ds → Dw K H (.ref a) (.tuple ds)
inductive DwAll (K : PySem.W.Frag) (H : Hp) : List V → List WData → Prop
  | nil : DwAll K H [] []
  | cons {v : V} {vs : List V} {d : WData} {ds : List WData} : Dw K H v d → DwAll K H vs ds → DwAll K H (v :: vs) (d :: ds)
end
theorem dw_ints {K : PySem.W.Frag} {H : Hp} : ∀ ns : List Int, DwAll K H (ns.map V.int) (ns.map WData.int)
  | [] => .nil
  | n :: r => .cons (.int n) (dw_ints r)
theorem ints_dw {K : PySem.W.Frag} {H : Hp} : ∀ (ns : List Int) (xs : List V), DwAll K H xs (ns.map WData.int) → xs = ns.map V.int
  | [], xs, h => by
    cases h
    rfl
  | n :: r, xs, h => by
    cases h with
    | cons h1 h2 =>
      cases h1
      rw [ints_dw r _ h2] <;> rfl
section
variable {P : Program} {w : World} {K : PySem.W.Frag} {H : Hp} {h : Heap} {R : PySem.W.WRecords} {cl : Str → Option Addr}
theorem sqL_at {a : Addr} {xs : List V} (hok : HOk P w H h) (KX : K.In h) (q : SqL K H a xs) : ∃ (its : List Value) (o : Obj) (n : Nat), Vals xs its ∧ h.get? a = some o ∧ o.cls = .type "list" ∧ o.data = .seq its.toArray n := by
  rcases q with q | ⟨o, its, n, e, hc, _, hd, _, hv⟩
  · obtain ⟨_, its, n, hv, e⟩ := (show ObjOk P w H h a (.lst xs) from q.ok hok)
    exact ⟨its, _, n, hv, e, rfl, rfl⟩
  · exact ⟨its.toList, o, n, hv, KX _ _ e, hc, by simp [hd]⟩
theorem sqT_at {a : Addr} {xs : List V} (hok : HOk P w H h) (KX : K.In h) (q : SqT K H a xs) : ∃ (its : List Value) (o : Obj) (n : Nat), Vals xs its ∧ h.get? a = some o ∧ o.cls = .type "tuple" ∧ o.data = .seq its.toArray n := by
  rcases q with q | ⟨o, its, n, e, hc, hd, _, hv⟩
  · obtain ⟨_, its, hv, o, e, hc, n, hd⟩ := (show ObjOk P w H h a (.tup xs) from q.ok hok)
    exact ⟨its, o, n, hv, e, hc, hd⟩
  · exact ⟨its.toList, o, n, hv, KX _ _ e, hc, by simp [hd]⟩
mutual
theorem Dw.reads (hok : HOk P w H h) (KX : K.In h) : ∀ (d : WData) (v : V) (u : Value), Dw K H v d → RelV v u → ∃ as, ReadsW R cl h u d as
  | .none, _, _, x, r => by
    cases x
    cases r
    exact ⟨_, ReadsW.none⟩
  | .bool b, _, _, x, r => by
    cases x
    cases r
    exact ⟨_, ReadsW.bool b⟩
  | .int i, _, _, x, r => by
    cases x
    obtain ⟨t, rfl⟩ := r
    exact ⟨_, ReadsW.int i t⟩
  | .str s, _, _, x, r => by
    cases x
    obtain ⟨t, rfl⟩ := r
    exact ⟨_, ReadsW.str s t⟩
  | .bytes b, _, _, x, r => by
    cases x
    obtain ⟨t, rfl⟩ := r
    exact ⟨_, ReadsW.bytes _ t⟩
  | .list ds, _, _, x, r => by
    cases x with
    | lst hs ha =>
      cases r
      obtain ⟨its, o, n, rv, ho, hc, hd⟩ := sqL_at hok KX hs
      obtain ⟨as, hr⟩ := Dw.readsAll hok KX ds _ its ha rv
      exact ⟨_, ReadsW.list ho hc hd hr⟩
  | .tuple ds, _, _, x, r => by
    cases x with
    | tup hs ha =>
      cases r
      obtain ⟨its, o, n, rv, ho, hc, hd⟩ := sqT_at hok KX hs
      obtain ⟨as, hr⟩ := Dw.readsAll hok KX ds _ its ha rv
      exact ⟨_, ReadsW.tuple ho hc hd hr⟩
  | .float _, _, _, x, _ => by cases x
  | .dict _, _, _, x, _ => by cases x
  | .bytearray _, _, _, x, _ => by cases x
  | .set _, _, _, x, _ => by cases x
  | .frozenset _, _, _, x, _ => by cases x
  | .obj _ _, _, _, x, _ => by cases x
theorem Dw.readsAll (hok : HOk P w H h) (KX : K.In h) : ∀ (ds : List WData) (vs : List V) (us : List Value), DwAll K H vs ds → Vals vs us → ∃ as, ReadsAllW R cl h us ds as
  | [], _, _, x, r => by
    cases x
    cases r
    exact ⟨_, ReadsAllW.nil⟩
  | d :: ds, _, _, x, r => by
    cases x with
    | cons h1 h2 =>
      cases r with
      | cons r1 r2 =>
        obtain ⟨as, q1⟩ := Dw.reads hok KX d _ _ h1 r1
        obtain ⟨bs, q2⟩ := Dw.readsAll hok KX ds _ _ h2 r2
        exact ⟨_, ReadsAllW.cons q1 q2⟩
end
end
/-! ### the arguments -/
mutual
/-- data that a codec tells -/
def plW : WData → Bool
  | .none => true
  | .bool _ => true
  | .int _ => true
  | .str _ => true
  | .bytes _ => true
  | .list xs => plWs xs
  | .tuple xs => plWs xs
  | _ => false
def plWs : List WData → Bool
  | [] => true
  | x :: r => plW x && plWs r
end
theorem plWs_map {α : Type} {f : α → WData} (h : ∀ a, plW (f a) = true) : ∀ l : List α, plWs (l.map f) = true
  | [] => rfl
  | x :: r => by
    show (plW (f x) && plWs (r.map f)) = true
    rw [h x, plWs_map h r] <;> rfl
theorem pl_enc : ∀ (c : Codec) (a : c.denote), plW (c.enc a) = true
  | .unit, _ => rfl
  | .bool, _ => rfl
  | .int _ _, _ => rfl
  | .nat _ _, _ => rfl
  | .u8, _ => rfl
  | .bytes _ _, _ => rfl
  | .text _ _ _ _, _ => rfl
  | .list _ _ c, a => plWs_map (fun x => pl_enc c x) a
  | .pair c d, a => by
    show (plW (c.enc a.1) && (plW (d.enc a.2) && true)) = true
    rw [pl_enc c a.1, pl_enc d a.2] <;> rfl
  | .triple c d e, a => by
    show (plW (c.enc a.1) && (plW (d.enc a.2.1) && (plW (e.enc a.2.2) && true))) = true
    rw [pl_enc c a.1, pl_enc d a.2.1, pl_enc e a.2.2] <;> rfl
  | .option c, none => rfl
  | .option c, some x => pl_enc c x
theorem pl_encAll : ∀ (cs : List Codec) (a : Codec.denoteAll cs), plWs (Codec.encAll cs a) = true
  | [], _ => rfl
  | c :: cs, a => by
    show (plW (c.enc a.1) && plWs (Codec.encAll cs a.2)) = true
    rw [pl_enc c a.1, pl_encAll cs a.2] <;> rfl
theorem weight_mem : ∀ {xs : List WData} {d : WData}, d ∈ xs → d.weight ≤ WData.weightAll xs
  | [], d, h => absurd h (by simp)
  | x :: r, d, h => by
    show d.weight ≤ x.weight + 1 + WData.weightAll r
    rcases List.mem_cons.mp h with e | m
    · rw [e]
      omega
    · have z := weight_mem m
      omega
def toV : Value → V
  | .none => .non
  | .bool b => .bl b
  | .int i _ => .int i
  | .str x _ => .str x
  | .bytes b _ => .byt b
  | .ref a => .ref a
  | _ => .non
/-- a value of the arguments, its objects among A -/
def OkU (A : List Addr) : Value → Prop
  | .none => True
  | .bool _ => True
  | .int _ _ => True
  | .str _ _ => True
  | .bytes _ _ => True
  | .ref a => a ∈ A
  | _ => False
theorem OkU.mono {A B : List Addr} (h : ∀ a ∈ A, a ∈ B) : ∀ {u : Value}, OkU A u → OkU B u := fun {u} x => by
  cases u with
  | ref a => exact h a x
  | none => trivial
  | bool b => trivial
  | int i t => trivial
  | str s t => trivial
  | bytes b t => trivial
  | _ => exact False.elim x
theorem relV_toV {A : List Addr} {u : Value} (x : OkU A u) : RelV (toV u) u := by
  cases u with
  | ref a => rfl
  | none => rfl
  | bool b => rfl
  | int i t => exact ⟨t, rfl⟩
  | str s t => exact ⟨t, rfl⟩
  | bytes b t => exact ⟨t, rfl⟩
  | _ => exact False.elim x
theorem vals_toV {A : List Addr} : ∀ {vs : List Value}, (∀ u ∈ vs, OkU A u) → Vals (vs.map toV) vs
  | [], _ => .nil
  | u :: r, h => .cons (relV_toV (h u (List.mem_cons_self ..))) (vals_toV fun x hx => h x (List.mem_cons_of_mem _ hx))
/-- an object of the arguments -/
def ArgOb (h : Heap) (A : List Addr) (a : Addr) : Prop := ∃ vs : List Value, vs.length ≤ sizeLine ∧ (∀ u ∈ vs, OkU A u) ∧
  (h.get? a = some { cls := .type "list", data := .seq vs.toArray } ∨ h.get? a = some { cls := .type "tuple", data := .seq vs.toArray })
theorem ArgOb.mono {h : Heap} {A B : List Addr} {a : Addr} (k : ∀ a ∈ A, a ∈ B) (x : ArgOb h A a) : ArgOb h B a := by
  obtain ⟨vs, h1, h2, h3⟩ := x
  exact ⟨vs, h1, fun u hu => (h2 u hu).mono k, h3⟩
theorem wellAll_len {P : Params} {h : Heap} : ∀ {vs : List Value} {ds : List WData}, WellAll P h vs ds → vs.length = ds.length
  | _, _, .nil => rfl
  | _, _, .cons _ b => by
    show _ + 1 = _ + 1
    rw [wellAll_len b]
theorem well_list {P : Params} {h : Heap} {v : Value} {ds : List WData} (x : Well P h v (.list ds)) : ∃ (a : Addr) (vs : List Value), v = .ref a ∧ h.get? a = some { cls := .type "list", data := .seq vs.toArray } ∧ WellAll P h vs ds := by
  cases x with
  | list ho hall => exact ⟨_, _, rfl, ho, hall⟩
theorem well_tuple {P : Params} {h : Heap} {v : Value} {ds : List WData} (x : Well P h v (.tuple ds)) : ∃ (a : Addr) (vs : List Value), v = .ref a ∧ h.get? a = some { cls := .type "tuple", data := .seq vs.toArray } ∧ WellAll P h vs ds := by
  cases x with
  | tuple ho hall => exact ⟨_, _, rfl, ho, hall⟩
theorem well_cons {P : Params} {h : Heap} {us : List Value} {d : WData} {ds : List WData} (x : WellAll P h us (d :: ds)) : ∃ (v : Value) (vs : List Value), us = v :: vs ∧ Well P h v d ∧ WellAll P h vs ds := by
  cases x with
  | cons a b => exact ⟨_, _, rfl, a, b⟩
theorem line_of {n : Nat} (h : n ≤ 1048576) : n ≤ sizeLine := Nat.le_trans h (by decide)
section
variable {P : Params} {h : Heap}
mutual
theorem area_one : ∀ (d : WData) (v : Value), Well P h v d → plW d = true → d.weight ≤ 1048576 → ∃ A : List Addr, OkU A v ∧ ∀ a ∈ A, ArgOb h A a
  | .none, _, x, _, _ => by
    cases x
    exact ⟨[], trivial, fun a m => absurd m (by simp)⟩
  | .bool b, _, x, _, _ => by
    cases x
    exact ⟨[], trivial, fun a m => absurd m (by simp)⟩
  | .int i, _, x, _, _ => by
    cases x
    exact ⟨[], trivial, fun a m => absurd m (by simp)⟩
  | .str s, _, x, _, _ => by
    cases x
    exact ⟨[], trivial, fun a m => absurd m (by simp)⟩
  | .bytes b, _, x, _, _ => by
    cases x
    exact ⟨[], trivial, fun a m => absurd m (by simp)⟩
  | .list ds, _, x, p, z => by
    obtain ⟨a, vs, rfl, ho, hall⟩ := well_list x
    have z2 : WData.weightAll ds ≤ 1048576 := z
    obtain ⟨A, h1, h2⟩ := area_all ds _ hall p fun d hd => Nat.le_trans (weight_mem hd) z2
    have k : ∀ b ∈ A, b ∈ a :: A := fun b hb => List.mem_cons_of_mem _ hb
    refine ⟨a :: A, List.mem_cons_self .., fun b hb => ?_⟩
    rcases List.mem_cons.mp hb with e | m
    · rw [e]
      exact ⟨vs, line_of (by rw [wellAll_len hall]; exact Nat.le_trans (PySem.W.length_le_weightAllW ds) z2), fun u hu => (h1 u hu).mono k, .inl ho⟩
    · exact (h2 b m).mono k
  | .tuple ds, _, x, p, z => by
    obtain ⟨a, vs, rfl, ho, hall⟩ := well_tuple x
    have z2 : WData.weightAll ds ≤ 1048576 := z
    obtain ⟨A, h1, h2⟩ := area_all ds _ hall p fun d hd => Nat.le_trans (weight_mem hd) z2
    have k : ∀ b ∈ A, b ∈ a :: A := fun b hb => List.mem_cons_of_mem _ hb
    refine ⟨a :: A, List.mem_cons_self .., fun b hb => ?_⟩
    rcases List.mem_cons.mp hb with e | m
    · rw [e]
      exact ⟨vs, line_of (by rw [wellAll_len hall]; exact Nat.le_trans (PySem.W.length_le_weightAllW ds) z2), fun u hu => (h1 u hu).mono k, .inr ho⟩
    · exact (h2 b m).mono k
  | .float _, _, _, p, _ => Bool.noConfusion (show false = true from p)
  | .dict _, _, _, p, _ => Bool.noConfusion (show false = true from p)
  | .bytearray _, _, _, p, _ => Bool.noConfusion (show false = true from p)
  | .set _, _, _, p, _ => Bool.noConfusion (show false = true from p)
  | .frozenset _, _, _, p, _ => Bool.noConfusion (show false = true from p)
  | .obj _ _, _, _, p, _ => Bool.noConfusion (show false = true from p)
theorem area_all : ∀ (ds : List WData) (vs : List Value), WellAll P h vs ds → plWs ds = true → (∀ d ∈ ds, d.weight ≤ 1048576) → ∃ A : List Addr, (∀ u ∈ vs, OkU A u) ∧ ∀ a ∈ A, ArgOb h A a
  | [], _, x, _, _ => by
    cases x
    exact ⟨[], fun u m => absurd m (by simp), fun a m => absurd m (by simp)⟩
  | d :: ds, _, x, p, z => by
    obtain ⟨v, vs, rfl, x1, x2⟩ := well_cons x
    have q : plW d = true ∧ plWs ds = true := Bool.and_eq_true_iff.mp p
    obtain ⟨A, a1, a2⟩ := area_one d v x1 q.1 (z d (List.mem_cons_self ..))
    obtain ⟨B, b1, b2⟩ := area_all ds vs x2 q.2 fun e he => z e (List.mem_cons_of_mem _ he)
    have kA : ∀ b ∈ A, b ∈ A ++ B := fun b hb => List.mem_append.mpr (.inl hb)
    have kB : ∀ b ∈ B, b ∈ A ++ B := fun b hb => List.mem_append.mpr (.inr hb)
    refine ⟨A ++ B, fun u hu => ?_, fun b hb => ?_⟩
    · rcases List.mem_cons.mp hu with e | m
      · rw [e]
        exact a1.mono kA
      · exact (b1 u m).mono kB
    · rcases List.mem_append.mp hb with m | m
      · exact (a2 b m).mono kA
      · exact (b2 b m).mono kB
end
end
/-- what is tracked of an argument's object -/
def hoOf (o : Obj) : Option HO := match o.data with
  | .seq vs _ => if (o.cls == Value.type "list") = true then some (.frz o (.lst (vs.toList.map toV))) else some (.frz o (.tup (vs.toList.map toV)))
  | _ => none
def argH (K : PySem.W.Frag) (h : Heap) (A : List Addr) : Hp := fun b => if b ∈ A then (if (K.lookup b).isNone = true then (h.get? b).bind hoOf else none) else none
/-- nothing is tracked but what is known to the object -/
def OnlyF (H : Hp) : Prop := ∀ b, H b = none ∨ ∃ o u, H b = some (.frz o u)
theorem hoOf_lst (vs : List Value) : hoOf { cls := .type "list", data := .seq vs.toArray } = some (.frz { cls := .type "list", data := .seq vs.toArray } (.lst (vs.map toV))) := by
  show (if (Value.type "list" == Value.type "list") = true then some (HO.frz { cls := .type "list", data := .seq vs.toArray } (.lst (vs.toArray.toList.map toV))) else some (HO.frz { cls := .type "list", data := .seq vs.toArray } (.tup (vs.toArray.toList.map toV)))) = _
  rw [if_pos (beq_self_eq_true _)]
theorem hoOf_tup (vs : List Value) : hoOf { cls := .type "tuple", data := .seq vs.toArray } = some (.frz { cls := .type "tuple", data := .seq vs.toArray } (.tup (vs.map toV))) := by
  show (if (Value.type "tuple" == Value.type "list") = true then some (HO.frz { cls := .type "tuple", data := .seq vs.toArray } (.lst (vs.toArray.toList.map toV))) else some (HO.frz { cls := .type "tuple", data := .seq vs.toArray } (.tup (vs.toArray.toList.map toV)))) = _
  rw [if_neg (by decide)]
section
variable {P : Program} {w : World} {K : PySem.W.Frag} {h : Heap} {A : List Addr}
theorem argH_at {b : Addr} {o : Obj} (hb : b ∈ A) (hk : K.lookup b = none) (e : h.get? b = some o) : argH K h A b = hoOf o := by
  unfold argH
  rw [if_pos hb, hk, if_pos (show (none : Option Obj).isNone = true from rfl), e] <;> rfl
theorem of_argH {b : Addr} {u : HO} (q : argH K h A b = some u) : b ∈ A ∧ K.lookup b = none := by
  unfold argH at q
  by_cases hb : b ∈ A
  · rw [if_pos hb] at q
    cases hk : K.lookup b with
    | none => exact ⟨hb, rfl⟩
    | some o =>
      rw [hk, if_neg (by simp)] at q
      cases q
  · rw [if_neg hb] at q
    cases q
/-- what stands tracked -/
theorem argH_is (ar : ∀ a ∈ A, ArgOb h A a) {b : Addr} {u : HO} (q : argH K h A b = some u) : K.lookup b = none ∧ ∃ vs : List Value, vs.length ≤ sizeLine ∧ (∀ u ∈ vs, OkU A u) ∧
    ((h.get? b = some { cls := .type "list", data := .seq vs.toArray } ∧ u = .frz { cls := .type "list", data := .seq vs.toArray } (.lst (vs.map toV))) ∨
     (h.get? b = some { cls := .type "tuple", data := .seq vs.toArray } ∧ u = .frz { cls := .type "tuple", data := .seq vs.toArray } (.tup (vs.map toV)))) := by
  obtain ⟨hb, hk⟩ := of_argH q
  obtain ⟨vs, h1, h2, h3⟩ := ar b hb
  refine ⟨hk, vs, h1, h2, ?_⟩
  rcases h3 with e | e
  · rw [argH_at hb hk e, hoOf_lst] at q
    exact .inl ⟨e, (Option.some.inj q).symm⟩
  · rw [argH_at hb hk e, hoOf_tup] at q
    exact .inr ⟨e, (Option.some.inj q).symm⟩
theorem argH_only (ar : ∀ a ∈ A, ArgOb h A a) : OnlyF (argH K h A) := fun b => by
  cases q : argH K h A b with
  | none => exact .inl rfl
  | some u =>
    obtain ⟨_, vs, _, _, ⟨_, e⟩ | ⟨_, e⟩⟩ := argH_is ar q
    · exact .inr ⟨_, _, by rw [e]⟩
    · exact .inr ⟨_, _, by rw [e]⟩
theorem argH_ok (ar : ∀ a ∈ A, ArgOb h A a) : HOk P w (argH K h A) h := fun b u q => by
  obtain ⟨_, vs, h1, h2, ⟨e, rfl⟩ | ⟨e, rfl⟩⟩ := argH_is ar q
  · exact ⟨e, by rw [List.length_map]; exact h1, vs, _, vals_toV h2, e⟩
  · exact ⟨e, by rw [List.length_map]; exact h1, vs, vals_toV h2, _, e, rfl, _, rfl⟩
theorem seq_inj {c c' : Value} {vs us : List Value} (e : (some { cls := c, data := .seq vs.toArray } : Option Obj) = some { cls := c', data := .seq us.toArray }) : c = c' ∧ vs = us := by
  have e1 := Option.some.inj e
  have e2 : c = c' := congrArg Obj.cls e1
  have e3 : Data.seq vs.toArray = Data.seq us.toArray := congrArg Obj.data e1
  injection e3 with e4
  refine ⟨e2, ?_⟩
  have e5 := congrArg Array.toList e4
  simpa using e5
/-- a list argument -/
theorem argL (KX : K.In h) (ar : ∀ a ∈ A, ArgOb h A a) {a : Addr} {vs : List Value} (ha : a ∈ A) (e : h.get? a = some { cls := .type "list", data := .seq vs.toArray }) : (∀ u ∈ vs, OkU A u) ∧ SqL K (argH K h A) a (vs.map toV) := by
  obtain ⟨us, h1, h2, h3⟩ := ar a ha
  have hu : us = vs := by
    rcases h3 with q | q
    · rw [e] at q
      exact (seq_inj q).2.symm
    · rw [e] at q
      exact absurd (Value.type.inj (seq_inj q).1) (by decide)
  subst hu
  refine ⟨h2, ?_⟩
  cases hk : K.lookup a with
  | none => exact .inl (.inr ⟨_, by rw [argH_at ha hk e, hoOf_lst]⟩)
  | some o =>
    have e2 := KX a o hk
    rw [e] at e2
    obtain rfl := Option.some.inj e2
    exact .inr ⟨_, us.toArray, _, hk, rfl, rfl, rfl, by rw [List.size_toArray]; exact h1, by simpa using vals_toV h2⟩
theorem argT (KX : K.In h) (ar : ∀ a ∈ A, ArgOb h A a) {a : Addr} {vs : List Value} (ha : a ∈ A) (e : h.get? a = some { cls := .type "tuple", data := .seq vs.toArray }) : (∀ u ∈ vs, OkU A u) ∧ SqT K (argH K h A) a (vs.map toV) := by
  obtain ⟨us, h1, h2, h3⟩ := ar a ha
  have hu : us = vs := by
    rcases h3 with q | q
    · rw [e] at q
      exact absurd (Value.type.inj (seq_inj q).1) (by decide)
    · rw [e] at q
      exact (seq_inj q).2.symm
  subst hu
  refine ⟨h2, ?_⟩
  cases hk : K.lookup a with
  | none => exact .inl (.inr ⟨_, by rw [argH_at ha hk e, hoOf_tup]⟩)
  | some o =>
    have e2 := KX a o hk
    rw [e] at e2
    obtain rfl := Option.some.inj e2
    exact .inr ⟨_, us.toArray, _, hk, rfl, rfl, by rw [List.size_toArray]; exact h1, by simpa using vals_toV h2⟩
mutual
theorem dw_one {Pm : Params} (KX : K.In h) (ar : ∀ a ∈ A, ArgOb h A a) : ∀ (d : WData) (v : Value), Well Pm h v d → plW d = true → OkU A v → Dw K (argH K h A) (toV v) d
  | .none, _, x, _, _ => by
    cases x
    exact .non
  | .bool b, _, x, _, _ => by
    cases x
    exact .bl b
  | .int i, _, x, _, _ => by
    cases x
    exact .int i
  | .str s, _, x, _, _ => by
    cases x
    exact .str s
  | .bytes b, _, x, _, _ => by
    cases x
    have z := Dw.byt (K := K) (H := argH K h A) b.toArray
    exact z
  | .list ds, _, x, p, hu => by
    obtain ⟨a, vs, rfl, ho, hall⟩ := well_list x
    obtain ⟨h2, hs⟩ := argL KX ar hu ho
    exact .lst hs (dw_all KX ar ds _ hall p h2)
  | .tuple ds, _, x, p, hu => by
    obtain ⟨a, vs, rfl, ho, hall⟩ := well_tuple x
    obtain ⟨h2, hs⟩ := argT KX ar hu ho
    exact .tup hs (dw_all KX ar ds _ hall p h2)
  | .float _, _, _, p, _ => Bool.noConfusion (show false = true from p)
  | .dict _, _, _, p, _ => Bool.noConfusion (show false = true from p)
  | .bytearray _, _, _, p, _ => Bool.noConfusion (show false = true from p)
  | .set _, _, _, p, _ => Bool.noConfusion (show false = true from p)
  | .frozenset _, _, _, p, _ => Bool.noConfusion (show false = true from p)
  | .obj _ _, _, _, p, _ => Bool.noConfusion (show false = true from p)
theorem dw_all {Pm : Params} (KX : K.In h) (ar : ∀ a ∈ A, ArgOb h A a) : ∀ (ds : List WData) (vs : List Value), WellAll Pm h vs ds → plWs ds = true → (∀ u ∈ vs, OkU A u) → DwAll K (argH K h A) (vs.map toV) ds
  | [], _, x, _, _ => by
    cases x
    exact .nil
  | d :: ds, _, x, p, hu => by
    obtain ⟨v, vs, rfl, x1, x2⟩ := well_cons x
    have q : plW d = true ∧ plWs ds = true := Bool.and_eq_true_iff.mp p
    exact .cons (dw_one KX ar d v x1 q.1 (hu _ (List.mem_cons_self ..))) (dw_all KX ar ds vs x2 q.2 fun u m => hu u (List.mem_cons_of_mem _ m))
end
end
/-! ### the call -/
theorem spec_call {P : Program} {w : World} {K : PySem.W.Frag} {mg mb : Str → Option Value} {CX : CXT} {k : Nat} {fa : Addr} {fd : FuncData} {ps : List Str} {sp : Sp} {s₁ : Shared} {vals : List Value} {ds : List WData} {R : PySem.W.WRecords} {cl : Str → Option Addr} {d0 : WData}
    (KX : K.In s₁.heap) (hns : s₁.heap.Ns mainGlobals mg) (hb : s₁.heap.Ns builtinsNs mb) (hbb : ∀ x : Str, x ≠ "__name__" → mb x = bootBuiltins x) (hlim : s₁.heap.NoLimit) (hg : s₁.gens = #[])
    (hwl : WellAll w.params s₁.heap vals ds) (hpl : plWs ds = true) (hwt : ∀ d ∈ ds, d.weight ≤ 1048576) (hr : Room k callerA)
    (F : ∀ base : Heap, K.In base → base.Ns mainGlobals mg → FnOk P w K mg base CX k fa fd ps sp) (hbind : ∀ (s : Shared) (us : List Value), us.length = ps.length → BindsTo s fd ⟨us, []⟩ (ps.zip us)) (hlen : ds.length = ps.length)
    (hsp : ∀ (H : Hp) (xs : List V), OnlyF H → DwAll K H xs ds → sp xs H (fun v H' => Dw K H' v d0) fun _ _ _ => False)
    (hCX : ∀ H e s', CX [] H s₁ (fun _ _ _ => False) e s' → False) :
    codeAny (model P w) callerA (.call (.ref fa) ⟨vals, []⟩) (fun r s' => ∃ u as, r = .ok (.ret u) ∧ ReadsW R cl s'.heap u d0 as ∧ OldK s₁.heap s'.heap ∧ s'.os = s₁.os ∧ AllBare s'.gens) s₁ := by
  obtain ⟨A, ho, ar⟩ := area_all ds vals hwl hpl hwt
  have hO : OnlyF (argH K s₁.heap A) := argH_only ar
  have hok : HOk P w (argH K s₁.heap A) s₁.heap := argH_ok ar
  have hS := dw_all KX ar ds vals hwl hpl ho
  have hV := vals_toV ho
  have hK : ∀ b u, argH K s₁.heap A b = some u → K.lookup b = none := fun b u q => (argH_is ar q).1
  have noA : ∀ {b : Addr} {o : Obj} {es : Array DictEntry} {ep : Nat}, s₁.heap.get? b = some o → o.data = .dict es ep → argH K s₁.heap A b = none := fun {b o es ep} e d => by
    cases q : argH K s₁.heap A b with
    | none => rfl
    | some u =>
      obtain ⟨_, vs, _, _, ⟨e2, _⟩ | ⟨e2, _⟩⟩ := argH_is ar q
      · rw [e2] at e
        cases e
        have d' : Data.seq vs.toArray _ = Data.dict es ep := d
        cases d'
      · rw [e2] at e
        cases e
        have d' : Data.seq vs.toArray _ = Data.dict es ep := d
        cases d'
  generalize argH K s₁.heap A = H at hO hok hS hK noA
  have base_of : ∀ {b : Addr} {o : Obj}, s₁.heap.get? b = some o → H b = none → (hidT s₁.heap H).get? b = some o := fun e n => hidT_get e n
  have nsK : ∀ {b : Addr} {m : Str → Option Value}, s₁.heap.Ns b m → (hidT s₁.heap H).Ns b m := fun {b m} ⟨o, es, ep, e, d, r⟩ => ⟨o, es, ep, base_of e (noA e d), d, r⟩
  have nK : ∀ b o, K.lookup b = some o → H b = none := fun b o e => by
    cases q : H b with
    | none => rfl
    | some u =>
      rw [hK b u q] at e
      cases e
  have hKb : K.In (hidT s₁.heap H) := fun b o e => base_of (KX b o e) (nK b o e)
  have hM : Mod K mg (hidT s₁.heap H) := ⟨hKb, nsK hns, ⟨mb, nsK hb, hbb⟩, let ⟨mc, h1, h2⟩ := hlim; ⟨mc, nsK h1, h2⟩⟩
  have e0 : Env0 P w K mg (hidT s₁.heap H) callerA [] s₁ H := ⟨rfl, hM, fun b o e => of_hidT e, Nat.le_of_eq (hidT_size _ _), trivial, fun b hb => absurd (show b ∈ ([] : List Addr) from hb) (by simp), hok, .of_eq hg⟩
  have hl : vals.length = ps.length := by rw [wellAll_len hwl]; exact hlen
  refine codeAny_mono ((F _ hKb (nsK hns)).run callerA [] s₁ H ⟨vals, []⟩ vals (vals.map toV) _ _ hr e0 (hbind s₁ vals hl) hV (hsp H _ hO hS)) fun r s' x => ?_
  cases r with
  | error e => exact (hCX H e s' x).elim
  | ok fl =>
    cases fl with
    | next => exact False.elim x
    | brk => exact False.elim x
    | cont => exact False.elim x
    | ret u =>
      obtain ⟨v, H', os, bare, un, hok', r', q⟩ := x
      have kept : ∀ b o, s₁.heap.get? b = some o → s'.heap.get? b = some o := fun b o e => by
        cases q2 : H b with
        | none => exact un.keep b o e q2 (by intro z; exact absurd (show b ∈ ([] : List Addr) from z) (by simp)) (by simp)
        | some u2 =>
          rcases hO b with z | ⟨ob, u3, z⟩
          · rw [q2] at z
            cases z
          · have z2 := un.frzs b ob _ z
            obtain ⟨e1, _⟩ := hok b _ z
            obtain ⟨e2, _⟩ := hok' b _ z2
            rw [e] at e1
            cases e1
            exact e2
      have KX' : K.In s'.heap := fun b o e => kept b o (KX b o e)
      obtain ⟨as, hrd⟩ := Dw.reads (R := R) (cl := cl) hok' KX' d0 v u q r'
      exact ⟨u, as, rfl, hrd, OldK.of_keep kept, os, bare⟩
/-! ### the row -/
theorem layable_weight {ds : List WData} (h : WData.layableAll ds = true) : ∀ d ∈ ds, d.weight ≤ 1048576 := fun d hd =>
  (PySem.W.layableW_iff.mp (List.all_eq_true.mp h d hd)).2.2
theorem encAll_len : ∀ (cs : List Codec) (a : Codec.denoteAll cs), (Codec.encAll cs a).length = cs.length
  | [], _ => rfl
  | c :: cs, a => by
    show (Codec.encAll cs a.2).length + 1 = cs.length + 1
    rw [encAll_len cs a.2]
/-- the goal that k_headS leaves (case hc), from the promise of the row's def: whatever the arguments that the codecs let and the row asks for, the def gives what stands for enc (f ..) -/
theorem walk_spec {r : OpenSpec} {k : Nat} {q : Program} {loose : List Str} {XP : (Str → Option Value) → Heap → Prop} {YP : World → Heap → Prop} {d : DefRec} {K : Params → PySem.W.Frag} {CX : World → CXT} {ps : List Str} {sp : World → Sp}
    (hwell : r.wellSaid = true) (hdf : d.params.defaults = []) (hlen : r.args.length = ps.length) (hr : Room k callerA)
    (hY : ∀ (w : World) (h : Heap), YP w h → (K w.params).In h)
    (F : ∀ (w : World) (mg : Str → Option Value) (fa : Addr) (h : Heap), YP w h → (K w.params).In h → h.Ns mainGlobals mg → mg d.name = some (.ref fa) →
      ∃ fd : FuncData, (∀ (s : Shared) (us : List Value), us.length = ps.length → BindsTo s fd ⟨us, []⟩ (ps.zip us)) ∧
        ∀ base : Heap, (K w.params).In base → base.Ns mainGlobals mg → FnOk r.prog w (K w.params) mg base (CX w) k fa fd ps (sp w))
    (hsp : ∀ (w : World) (H : Hp) (xs : List V) (a : Codec.denoteAll r.args), OnlyF H → Codec.withinAll r.args a = true → Codec.app r.args r.asked a = true → DwAll (K w.params) H xs (Codec.encAll r.args a) →
      sp w xs H (fun v H' => Dw (K w.params) H' v (r.ret.enc (Codec.app r.args r.f a))) fun _ _ _ => False)
    (hCX : ∀ (w : World) (H : Hp) (s : Shared) (e : Value) (s' : Shared), CX w [] H s (fun _ _ _ => False) e s' → False) :
    PySem.W.WalkOS q loose XP YP r d [] (fun f vs => PySem.call f vs) := by
  intro w s_0 s₁ mg mb G Y fa o pm cd doc dV kV ho hd hcd hD hmg hg args vals as hpre hlay hrd hwl hlo
  obtain ⟨a, e1, e2⟩ := PySem.W.os_pre_some hpre
  obtain ⟨e3, hwi⟩ := Codec.encAll_of_decAll r.args args a e1
  subst e3
  have KX := hY w _ Y
  obtain ⟨fd, hb, hF⟩ := F w mg fa _ Y KX G.T.g hmg
  refine PySem.W.enter_call (codeAny_mono (spec_call (R := []) (cl := classAt s_0.heap) (d0 := r.ret.enc (Codec.app r.args r.f a)) KX G.T.g G.T.b G.T.builtins G.T.nolimit hg hwl (pl_encAll _ _) (layable_weight hlay) hr hF hb (by rw [encAll_len]; exact hlen)
    (fun H xs hO hS => hsp w H xs a hO hwi e2 hS) fun H e s' => hCX w H s₁ e s') fun r' s' hq => ?_)
  obtain ⟨u, as', rfl, h1, h2, h3, h4⟩ := hq
  exact ⟨.inl ⟨u, _, as', rfl, fun _ => rfl, h1, (OpenSpec.post_iff hwell hwi _ _).mpr rfl, fun z => Bool.noConfusion (show false = true from z)⟩, h2, h3, h4⟩
/-- the same where the promise hangs on the written part alone -/
theorem walk_specK {r : OpenSpec} {k : Nat} {q : Program} {loose : List Str} {XP : (Str → Option Value) → Heap → Prop} {YP : World → Heap → Prop} {d : DefRec} {K : Params → PySem.W.Frag} {CX : CXT} {ps : List Str} {sp : PySem.W.Frag → Sp}
    (hwell : r.wellSaid = true) (hdf : d.params.defaults = []) (hlen : r.args.length = ps.length) (hr : Room k callerA)
    (hY : ∀ (w : World) (h : Heap), YP w h → (K w.params).In h)
    (F : ∀ (w : World) (mg : Str → Option Value) (fa : Addr) (h : Heap), YP w h → (K w.params).In h → h.Ns mainGlobals mg → mg d.name = some (.ref fa) →
      ∃ fd : FuncData, (∀ (s : Shared) (us : List Value), us.length = ps.length → BindsTo s fd ⟨us, []⟩ (ps.zip us)) ∧
        ∀ base : Heap, (K w.params).In base → base.Ns mainGlobals mg → FnOk r.prog w (K w.params) mg base CX k fa fd ps (sp (K w.params)))
    (hsp : ∀ (K : PySem.W.Frag) (H : Hp) (xs : List V) (a : Codec.denoteAll r.args), OnlyF H → Codec.withinAll r.args a = true → Codec.app r.args r.asked a = true → DwAll K H xs (Codec.encAll r.args a) →
      sp K xs H (fun v H' => Dw K H' v (r.ret.enc (Codec.app r.args r.f a))) fun _ _ _ => False)
    (hCX : ∀ (H : Hp) (s : Shared) (e : Value) (s' : Shared), CX [] H s (fun _ _ _ => False) e s' → False) :
    PySem.W.WalkOS q loose XP YP r d [] (fun f vs => PySem.call f vs) :=
  walk_spec (K := K) (CX := fun _ => CX) (sp := fun w => sp (K w.params)) hwell hdf hlen hr hY F (fun w H xs a h1 h2 h3 h4 => hsp (K w.params) H xs a h1 h2 h3 h4) fun _ H s e s' => hCX H s e s'
end L2
-- rests on (row put in by the clerk, for the bench that shows a file only what it spells): KE.SpHead KE.OsShapes
end

/-! Readings of the layer's terms, one lemma a term: the goal is «term σ H Q», the premise what is left to show. -/
namespace L3
open PySem PySem.Spec PyProof.Rows L2
abbrev Sig := L2.St
section
variable {σ : Sig} {H : Hp} {Q : VK} {K : PySem.W.Frag}
theorem R_var {i : Nat} {v : V} (h : σ[i]? = some (some v)) (q : Q v H) : tVar i σ H Q := ⟨v, h, q⟩
theorem R_C {v : V} (q : Q v H) : tC v σ H Q := q
theorem R_op {r : R2} {ta tb : TE} (h : ta σ H fun x H1 => tb σ H1 fun y H2 => r x y H2 Q) : tOp r ta tb σ H Q := h
theorem R_un {r : V → Hp → VK → Prop} {ta : TE} (h : ta σ H fun x H1 => r x H1 Q) : tUn r ta σ H Q := h
theorem R_rU {g : Int → V} {i : Int} (q : Q (g i) H) : rU g (.int i) H Q := ⟨i, rfl, q⟩
theorem R_rI0 {g : Int → Int → V} {i j : Int} (q : Q (g i j) H) : rI0 g (.int i) (.int j) H Q := ⟨i, j, rfl, rfl, q⟩
theorem R_rI {C : Int → Int → Prop} {g : Int → Int → V} {i j : Int} (hc : C i j) (q : Q (g i j) H) : rI C g (.int i) (.int j) H Q := ⟨i, j, rfl, rfl, hc, q⟩
theorem dec_i {i j : Int} : decide (V.int i = V.int j) = decide (i = j) := decide_eq_decide.mpr ⟨fun e => V.int.inj e, fun e => by rw [e]⟩
theorem R_rEq {i j : Int} (q : Q (.bl (decide (i = j))) H) : rEq (.int i) (.int j) H Q := ⟨rfl, by rw [dec_i]; exact q⟩
theorem R_rNe {i j : Int} (q : Q (.bl (!decide (i = j))) H) : rNe (.int i) (.int j) H Q := ⟨rfl, by rw [dec_i]; exact q⟩
/-- is None, is not None -/
def rIsN : R2 := fun x y H Q => y = .non ∧ Q (.bl (decide (x = .non))) H
def rNotN : R2 := fun x y H Q => y = .non ∧ Q (.bl (!decide (x = .non))) H
theorem R_isN {x : V} (q : Q (.bl (decide (x = .non))) H) : rIsN x .non H Q := ⟨rfl, q⟩
theorem R_notN {x : V} (q : Q (.bl (!decide (x = .non))) H) : rNotN x .non H Q := ⟨rfl, q⟩
theorem R_test {t : TE} {Q : Bool → Hp → Prop} (h : t σ H fun x H1 => ∃ k, x = .bl k ∧ Q k H1) : tTest t σ H Q := h
theorem R_B {t : TE} {Q : Bool → Hp → Prop} (h : t σ H fun x H1 => ∃ k, x = .bl k ∧ Q k H1) : tB t σ H Q := h
theorem R_isbl {c : Bool} {Q : Bool → Prop} (q : Q c) : ∃ k, V.bl c = .bl k ∧ Q k := ⟨c, rfl, q⟩
theorem R_or {t u : TT} {Q : Bool → Hp → Prop} (h : t σ H fun c H1 => if c = true then Q true H1 else u σ H1 Q) : tOr t u σ H Q := h
theorem R_and {t u : TT} {Q : Bool → Hp → Prop} (h : t σ H fun c H1 => if c = true then u σ H1 Q else Q false H1) : tAnd t u σ H Q := h
theorem R_not {t : TT} {Q : Bool → Hp → Prop} (h : t σ H fun c H1 => Q (!c) H1) : tNot t σ H Q := h
theorem R_andV {t u : TE} (h : t σ H fun x H1 => ∃ c, x = .bl c ∧ if c = true then u σ H1 Q else Q (.bl false) H1) : tAndV t u σ H Q := h
theorem R_orV {t u : TE} (h : t σ H fun x H1 => ∃ c, x = .bl c ∧ if c = true then Q (.bl true) H1 else u σ H1 Q) : tOrV t u σ H Q := h
theorem R_notV {t : TE} (h : t σ H fun x H1 => ∃ c, x = .bl c ∧ Q (.bl (!c)) H1) : tNotV t σ H Q := h
theorem R_ifE {t : TT} {ta tb : TE} (h : t σ H fun c H1 => if c = true then ta σ H1 Q else tb σ H1 Q) : tIf t ta tb σ H Q := h
/-- a chain of two comparisons of whole numbers -/
theorem R_chain {r r' : R2} {ta tb tc : TE} (h : ta σ H fun x H1 => tb σ H1 fun y H2 => r x y H2 fun z H3 => ∃ k, z = .bl k ∧ if k = true then tc σ H3 fun u H4 => r' y u H4 Q else Q (.bl false) H3) : tChain r r' ta tb tc σ H Q := h
theorem R_cb {r : List V → Hp → VK → Prop} {t : TA} (h : t σ H fun vs H1 => r vs H1 Q) : tCB r t σ H Q := h
theorem R_cons {ta : TE} {tr : TA} {Q : List V → Hp → Prop} (h : ta σ H fun x H1 => tr σ H1 fun xs H2 => Q (x :: xs) H2) : tCons ta tr σ H Q := h
theorem R_nil {Q : List V → Hp → Prop} (h : Q [] H) : tNil σ H Q := h
/-- a new object is laid -/
def Laid (Q : VK) (o : HO) (H : Hp) : Prop := ∀ p, H p = none → Q (.ref p) (upd H p o)
theorem R_laid {o : HO} (k : ∀ (l : Addr) (H2 : Hp), H l = none → Same H H2 → H2 l = some o → Q (.ref l) H2) : Laid Q o H := fun p hp =>
  k p _ hp (fun b u e => by rw [upd_ne (ne_of_none e hp)]; exact e) upd_same
theorem R_tup {t : TA} (h : t σ H fun xs H1 => xs.length ≤ sizeLine ∧ Laid Q (.tup xs) H1) : tTup t σ H Q := h
theorem R_lst {t : TA} (h : t σ H fun xs H1 => xs.length ≤ sizeLine ∧ Laid Q (.lst xs) H1) : tLst t σ H Q := h
/-- an own def called by its promise -/
def tOwn (sp : Sp) (t : TA) : TE := fun σ H Q => t σ H fun vs H1 => sp vs H1 Q E0
theorem R_own {sp : Sp} {t : TA} (h : t σ H fun vs H1 => sp vs H1 Q E0) : tOwn sp t σ H Q := h
/-- len of a list or a tuple -/
def rLen (K : PySem.W.Frag) : List V → Hp → VK → Prop := fun xs H Q => ∃ p ys, xs = [.ref p] ∧ (SqL K H p ys ∨ SqT K H p ys) ∧ Q (.int ys.length) H
theorem R_len {p : Addr} {ys : List V} (h : SqL K H p ys) (q : Q (.int ys.length) H) : rLen K [.ref p] H Q := ⟨p, ys, rfl, .inl h, q⟩
/-- tuple(xs), list(xs) -/
def rTup (K : PySem.W.Frag) : List V → Hp → VK → Prop := fun xs H Q => ∃ p ys, xs = [.ref p] ∧ ((SqL K H p ys ∧ ∀ l, H l = none → Q (.ref l) (upd H l (.tup ys))) ∨ (SqT K H p ys ∧ Q (.ref p) H))
theorem R_toTup {p : Addr} {ys : List V} (h : SqL K H p ys) (q : Laid Q (.tup ys) H) : rTup K [.ref p] H Q := ⟨p, ys, rfl, .inl ⟨h, q⟩⟩
def rLst (K : PySem.W.Frag) : List V → Hp → VK → Prop := fun xs H Q => ∃ p ys, xs = [.ref p] ∧ (SqL K H p ys ∨ SqT K H p ys) ∧ ∀ l, H l = none → Q (.ref l) (upd H l (.lst ys))
theorem R_toLst {p : Addr} {ys : List V} (h : SqL K H p ys) (q : Laid Q (.lst ys) H) : rLst K [.ref p] H Q := ⟨p, ys, rfl, .inl h, q⟩
def rMin2 : List V → Hp → VK → Prop := fun xs H Q => ∃ i j, xs = [.int i, .int j] ∧ Q (.int (if j < i then j else i)) H
theorem R_min2 {i j : Int} (q : Q (.int (if j < i then j else i)) H) : rMin2 [.int i, .int j] H Q := ⟨i, j, rfl, q⟩
def rMax2 : List V → Hp → VK → Prop := fun xs H Q => ∃ i j, xs = [.int i, .int j] ∧ Q (.int (if j > i then j else i)) H
theorem R_max2 {i j : Int} (q : Q (.int (if j > i then j else i)) H) : rMax2 [.int i, .int j] H Q := ⟨i, j, rfl, q⟩
/-- an item -/
theorem R_ixL {p : Addr} {xs : List V} {i : Int} {v : V} (h : SqL K H p xs) (e : atI xs i = some v) (q : Q v H) : rIxL K (.ref p) (.int i) H Q := ⟨p, xs, i, v, rfl, rfl, h, e, q⟩
theorem R_ixT {p : Addr} {xs : List V} {i : Int} {v : V} (h : SqT K H p xs) (e : atI xs i = some v) (q : Q v H) : rIxT K (.ref p) (.int i) H Q := ⟨p, xs, i, v, rfl, rfl, h, e, q⟩
/-- a slice -/
theorem R_sl {r : V → Option Int → Option Int → Hp → VK → Prop} {te : TE} {tl th : TO} (h : te σ H fun x H1 => tl σ H1 fun l H2 => th σ H2 fun u H3 => r x l u H3 Q) : tSl r te tl th σ H Q := h
theorem R_noPart {Q : Option Int → Hp → Prop} (h : Q none H) : tNoPart σ H Q := h
theorem R_part {t : TE} {Q : Option Int → Hp → Prop} (h : t σ H fun x H1 => ∃ i, x = .int i ∧ Q (some i) H1) : tPart t σ H Q := h
theorem R_isint {c : Int} {Q : Int → Prop} (q : Q c) : ∃ k, V.int c = .int k ∧ Q k := ⟨c, rfl, q⟩
theorem R_slL {p : Addr} {xs : List V} {lo hi : Option Int} (h : SqL K H p xs) (q : Laid Q (.lst (cutV xs lo hi)) H) : rSlL K (.ref p) lo hi H Q := ⟨p, xs, rfl, h, q⟩
/-- != of two tuples of whole numbers -/
theorem dpAll_ints : ∀ ns : List Int, DpAll K H (ns.map V.int) (ns.map PyData.int)
  | [] => .nil
  | n :: r => .cons (.int n) (dpAll_ints r)
theorem eqvAll_ints : ∀ ns ms : List Int, PyData.eqvAll (ns.map PyData.int) (ms.map PyData.int) = decide (ns = ms)
  | [], [] => rfl
  | [], _ :: _ => rfl
  | _ :: _, [] => rfl
  | x :: r, y :: s => by
    have e : PyData.eqvAll ((x :: r).map PyData.int) ((y :: s).map PyData.int) = ((x == y) && PyData.eqvAll (r.map PyData.int) (s.map PyData.int)) := rfl
    rw [e, eqvAll_ints r s]
    by_cases h : x = y
    · subst h
      by_cases h2 : r = s
      · subst h2; simp
      · simp [h2]
    · simp [h]
/-- a method of a built-in value -/
theorem R_bm {T : String} {r : V → List V → Hp → VK → Prop} {to : TE} {t : TA} (h : to σ H fun x H1 => tyV K T x H1 ∧ t σ H1 fun xs H2 => r x xs H2 Q) : tBM K T r to t σ H Q := h
theorem R_bm0 {T : String} {r : V → List V → Hp → VK → Prop} {to : TE} (h : to σ H fun x H1 => tyV K T x H1 ∧ r x [] H1 Q) : tBM0 K T r to σ H Q := h
theorem ty_list {p : Addr} {xs : List V} (h : SqL K H p xs) : tyV K "list" (.ref p) H := .inl ⟨rfl, xs, h⟩
theorem R_append {l : Addr} {xs : List V} {y : V} (h : H l = some (.lst xs)) (z : xs.length < sizeLine) (q : Q .non (upd H l (.lst (xs ++ [y])))) : rAppend (.ref l) [y] H Q := ⟨l, xs, y, rfl, rfl, h, z, q⟩
theorem R_cat {l b : Addr} {xs zs : List V} (h : H l = some (.lst xs)) (h' : H b = some (.lst zs)) (z : xs.length + zs.length ≤ sizeLine) (q : Laid Q (.lst (xs ++ zs)) H) : rCat (.ref l) (.ref b) H Q := ⟨l, b, xs, zs, rfl, rfl, h, h', z, q⟩
/-! statements -/
theorem R_seq {t u : TS} {D : Ends} (h : t { D with nx := u D } σ H) : tSeq t u D σ H := h
theorem R_if {c : TT} {t u : TS} {D : Ends} (h : c σ H fun b H1 => if b = true then t D σ H1 else u D σ H1) : tIfS c t u D σ H := h
theorem R_ret {te : TE} {D : Ends} (h : te σ H D.rt) : tRet te D σ H := h
theorem R_retN {D : Ends} (h : D.rt .non H) : tRetN D σ H := h
theorem R_next {D : Ends} (h : D.nx σ H) : tNext D σ H := h
theorem R_cont {D : Ends} (h : D.ct σ H) : tCont D σ H := h
theorem R_break {D : Ends} (h : D.bk σ H) : tBreak D σ H := h
theorem R_drop {te : TE} {D : Ends} (h : te σ H fun _ H1 => D.nx σ H1) : tDrop te D σ H := h
theorem R_asg {te : TE} {g : TG} {D : Ends} (h : te σ H fun x H1 => g x σ H1 D.nx) : tAsg te g D σ H := h
theorem R_name {i : Nat} {v : V} {Q : Sig → Hp → Prop} (h : Q (σ.set i (some v)) H) : gName i v σ H Q := h
theorem R_sub {to ti : TE} {t : TSet} {v : V} {Q : Sig → Hp → Prop} (h : to σ H fun o H1 => ti σ H1 fun i H2 => t o i v H2 fun H3 => Q σ H3) : gSub to ti t v σ H Q := h
theorem R_setL {p : Addr} {xs : List V} {k : Int} {j : Nat} {v : V} {Q : Hp → Prop} (h : H p = some (.lst xs)) (e : ixN xs.length k = some j) (q : Q (upd H p (.lst (xs.set j v)))) : rSetL (.ref p) (.int k) v H Q := ⟨p, xs, k, j, rfl, rfl, h, e, q⟩
end
section
variable {X : Cx}
theorem op_notN' : OpR X (compareOp .IsNot) rNotN := op_notN
theorem cr_len : CallR X (.builtin "len") (rLen X.K) := call_len_seq
theorem cr_tup : CallR X (.type "tuple") (rTup X.K) := call_tuple_of
theorem cr_min2 (hc : X.calm = true) : CallR X (.builtin "min") rMin2 := call_min2 hc
/-- a whole number of the file's top -/
theorem pe_gint {x : Str} {v : Int} {pos : Pos} (hm : ∃ t, X.mg x = some (.int v t)) (hg : Gl X x := by rfl) (hd : (x == ("__debug__" : Str)) = false := by decide) : PE X (.Name x pos) (tC (.int v)) := by
  obtain ⟨t, hm⟩ := hm
  exact pe_glob hg hm ⟨t, rfl⟩ hd
theorem pe_gref {x : Str} {a : Addr} {pos : Pos} (hm : X.mg x = some (.ref a)) (hg : Gl X x := by rfl) (hd : (x == ("__debug__" : Str)) = false := by decide) : PE X (.Name x pos) (tC (.ref a)) := pe_glob hg hm rfl hd
end
/-- an own def as a caller meets it -/
structure Cal (P : Program) (w : World) (K : PySem.W.Frag) (mg : Str → Option Value) (base : Heap) (x : Str) (k : Nat) (ps : List Str) (sp : Sp) : Prop where
  ex : ∃ (f : Addr) (fd : FuncData), FnOk P w K mg base CX0 k f fd ps sp ∧ mg x = some (.ref f) ∧ PySem.W.keepIn K (.ref f) = true ∧ Binds K fd ps []
section
variable {X : Cx} {k : Nat} {ps : List Str} {sp : Sp} {x : Str} {p pos : Pos} {e : Expr} {es : List Expr} {t : TA}
theorem pe_own (C : Cal X.prog X.w X.K X.mg X.base x k ps sp) (hr : Room k X.A) (ha : PA X (e :: es) t) (hg : Gl X x := by rfl) (hdb : (x == ("__debug__" : Str)) = false := by decide)
    (he : starEach (e :: es) X.env = (false, eval e X.env) :: starEach es X.env := by rfl) (hpl : (backTo pos (starEach es X.env)).any (·.1) = false := by rfl) : PE X (.Call (.Name x p) (e :: es) [] pos) (tOwn sp t) := by
  obtain ⟨f, fd, F, hm, hk, hb⟩ := C.ex
  have h := pe_call (p := p) F hr hg hm hk hb .nil pass0 ha hdb he hpl
  intro pins s σ H Q I q
  refine h pins s σ H Q I ?_
  have e1 : tCall sp [] E0 t = tOwn sp t := by
    funext σ H Q
    show (t σ H fun vs H1 => sp (vs ++ []) H1 Q E0) = _
    simp only [List.append_nil]
    rfl
  rw [e1]
  exact q
end
end L3
namespace L3
open PySem PySem.Spec PyProof.Rows L2
section
variable {σ : Sig} {H : Hp} {Q : VK} {K : PySem.W.Frag}
theorem sq_up {a l : Addr} {xs : List V} {o : HO} (h : SqL K H a xs) (hl : H l = none) : SqL K (upd H l o) a xs := by
  refine Same.seq (fun b u e => ?_) h
  rw [upd_ne (ne_of_none e hl)]
  exact e
theorem same_up {l : Addr} {o : HO} (hl : H l = none) : Same H (upd H l o) := fun b u e => by
  rw [upd_ne (ne_of_none e hl)]
  exact e
theorem sqT_same {H' : Hp} {a : Addr} {xs : List V} (e : Same H H') (h : SqT K H a xs) : SqT K H' a xs := by
  rcases h with (h | ⟨o, h⟩) | h
  · exact .inl (.inl (e _ _ h))
  · exact .inl (.inr ⟨o, e _ _ h⟩)
  · exact .inr h
theorem ite_dec {p A B : Prop} [Decidable p] (h1 : p → A) (h2 : ¬ p → B) : if decide p = true then A else B := by
  by_cases h : p
  · rw [if_pos (decide_eq_true h)]; exact h1 h
  · rw [if_neg (by rw [decide_eq_false h]; decide)]; exact h2 h
theorem ite_ndec {p A B : Prop} [Decidable p] (h1 : ¬ p → A) (h2 : p → B) : if (!decide p) = true then A else B := by
  by_cases h : p
  · rw [if_neg (by rw [decide_eq_true h]; decide)]; exact h2 h
  · rw [if_pos (by rw [decide_eq_false h]; rfl)]; exact h1 h
theorem atI_ints {ns : List Int} {i : Int} (h0 : 0 ≤ i) (h1 : i < ns.length) : atI (ns.map V.int) i = some (.int (ns.getD i.toNat 0)) := by
  have e : i = (i.toNat : Int) := by omega
  have l : i.toNat < ns.length := by omega
  refine at_of e ?_
  rw [List.getElem?_map, List.getD_eq_getElem?_getD, List.getElem?_eq_getElem l]
  rfl
theorem R_ixI {p : Addr} {ns : List Int} {i : Int} (h : SqL K H p (ns.map V.int)) (q : Q (.int (ns.getD i.toNat 0)) H) (h0 : 0 ≤ i) (h1 : i < ns.length) : rIxL K (.ref p) (.int i) H Q := R_ixL h (atI_ints h0 h1) q
theorem R_few {xs : List V} {P : Prop} (h : xs.length ≤ 64) (k : P) : xs.length ≤ sizeLine ∧ P := ⟨Nat.le_trans h (by rw [sizeLine_eq]; decide), k⟩
theorem R_lenI {p : Addr} {ns : List Int} (h : SqL K H p (ns.map V.int)) (q : Q (.int (ns.length : Int)) H) : rLen K [.ref p] H Q := R_len h (by rw [List.length_map]; exact q)
theorem R_rIm {C : Int → Int → Prop} {g : Int → Int → V} {i j : Int} (q : Q (g i j) H) (hc : C i j) : rI C g (.int i) (.int j) H Q := R_rI hc q
theorem lay_ints : ∀ ns : List Int, PyData.canLayAll0 (ns.map PyData.int) = true
  | [] => rfl
  | _ :: r => by simp [PyData.canLayAll0, PyData.canLay0, lay_ints r]
theorem deep_ints : ∀ ns : List Int, PyData.depthAll (ns.map PyData.int) ≤ 1
  | [] => by simp [PyData.depthAll]
  | _ :: r => by
    have := deep_ints r
    simp only [List.map_cons, PyData.depthAll, PyData.depth]
    omega
theorem shaped_tup (l : List Int) : SeqAt.shaped (PyData.tuple (l.map PyData.int)) = true := by
  have := deep_ints l
  simp only [SeqAt.shaped, PyData.canLay0, PyData.depth, lay_ints, Bool.true_and]
  exact decide_eq_true (by omega)
theorem R_neT {p q : Addr} {ns ms : List Int} (h : SqT K H p (ns.map V.int)) (h' : SqT K H q (ms.map V.int)) (k : Q (.bl (!decide (ns = ms))) H) : rNeD K (.ref p) (.ref q) H Q := by
  refine ⟨_, _, .tup h (dpAll_ints ns), .tup h' (dpAll_ints ms), shaped_tup _, shaped_tup _, ?_⟩
  show Q (.bl (!PyData.eqvAll (ns.map PyData.int) (ms.map PyData.int))) H
  rw [eqvAll_ints]
  exact k
theorem cut_to {xs : List Int} {n : Int} (h : 0 ≤ n) : cutV (xs.map V.int) none (some n) = (xs.take n.toNat).map V.int := by
  have e : n = (n.toNat : Int) := by omega
  generalize n.toNat = k at e
  subst e
  unfold cutV
  rw [HT.sIx_none, HT.sIx_nat, List.drop_zero, List.length_map, ← List.map_take]
  congr 1
  rw [Nat.sub_zero]
  rcases Nat.le_total k xs.length with z | z
  · rw [Nat.min_eq_left z]
  · rw [Nat.min_eq_right z, List.take_of_length_le (Nat.le_refl _), List.take_of_length_le z]
theorem cut_from {xs : List Int} {n : Int} (h : 0 ≤ n) : cutV (xs.map V.int) (some n) none = (xs.drop n.toNat).map V.int := by
  have e : n = (n.toNat : Int) := by omega
  generalize n.toNat = k at e
  subst e
  unfold cutV
  rw [HT.sIx_none, HT.sIx_nat, List.length_map, ← List.map_drop, ← List.map_take]
  congr 1
  rcases Nat.le_total k xs.length with z | z
  · rw [Nat.min_eq_left z, List.take_of_length_le (by rw [List.length_drop]; exact Nat.le_refl _)]
  · rw [Nat.min_eq_right z, List.drop_of_length_le (Nat.le_refl _), List.drop_of_length_le z, List.take_nil]
end
end L3
namespace L3
open PySem PySem.Spec PyProof.Rows L2
section
variable {σ : Sig} {H : Hp} {Q : VK} {K : PySem.W.Frag} {g : TG} {tb : TS} {D : Ends}
theorem cmul {i j : Int} (h : -1000000000 ≤ i ∧ i ≤ 1000000000) : CMul i j := .inl ⟨by omega, by omega⟩
theorem cmul2 {i j : Int} (h : -1000000000 ≤ j ∧ j ≤ 1000000000) : CMul i j := .inr ⟨by omega, by omega⟩
/-! ### loops -/
def Loop (J : It) (g : TG) (tb : TS) (D : Ends) (σ : Sig) (H : Hp) : Prop := ∃ W : Nat → Nat → Sig → Hp → Prop, (∃ m, W 0 m σ H) ∧ ∀ i m σ H, W i m σ H →
  (J.stop i H ∧ D.nx σ H) ∨ (J.go i H ∧ ∃ N : Sig → Hp → Prop, (∀ σ' H', N σ' H' → ∃ m', m' < m ∧ W (i + 1) m' σ' H') ∧ ∀ x H', J.yld i H x H' → g x σ H' fun σ2 H2 => tb { D with nx := N, ct := N, bk := D.nx } σ2 H2)
theorem R_for {wi : TI} (h : wi σ H fun J H1 => Loop J g tb D σ H1) : tFor wi g tb D σ H := h
theorem R_iRng1 {ta : TA} {R : It → Hp → Prop} (h : ta σ H fun vs H1 => ∃ j : Int, vs = [.int j] ∧ -(2 ^ 62) ≤ j ∧ j < 2 ^ 62 ∧ R (Itr 0 j.toNat) H1) : iRng1 ta σ H R := h
theorem R_iRng2 {ta : TA} {R : It → Hp → Prop} (h : ta σ H fun vs H1 => ∃ i j : Int, vs = [.int i, .int j] ∧ (-(2 ^ 62) ≤ i ∧ i < 2 ^ 62 ∧ -(2 ^ 62) ≤ j ∧ j < 2 ^ 62) ∧ R (Itr i (j - i).toNat) H1) : iRng2 ta σ H R := h
theorem R_rng1 {j : Int} (k : Loop (Itr 0 j.toNat) g tb D σ H) (h0 : -(2 ^ 62) ≤ j) (h1 : j < 2 ^ 62) : ∃ i : Int, ([V.int j] : List V) = [.int i] ∧ -(2 ^ 62) ≤ i ∧ i < 2 ^ 62 ∧ Loop (Itr 0 i.toNat) g tb D σ H := ⟨j, rfl, h0, h1, k⟩
theorem R_rng2 {lo hi : Int} (k : Loop (Itr lo (hi - lo).toNat) g tb D σ H) (h : -(2 ^ 62) ≤ lo ∧ lo < 2 ^ 62 ∧ -(2 ^ 62) ≤ hi ∧ hi < 2 ^ 62) :
    ∃ i j : Int, ([V.int lo, V.int hi] : List V) = [.int i, .int j] ∧ (-(2 ^ 62) ≤ i ∧ i < 2 ^ 62 ∧ -(2 ^ 62) ≤ j ∧ j < 2 ^ 62) ∧ Loop (Itr i (j - i).toNat) g tb D σ H := ⟨lo, hi, rfl, h, k⟩
theorem R_iTup {tl : TE} {R : It → Hp → Prop} (h : tl σ H fun x H1 => ∃ a, x = .ref a ∧ (∃ xs, SqT K H1 a xs) ∧ R (Itt K a) H1) : iTup K tl σ H R := h
theorem R_iLst {tl : TE} {R : It → Hp → Prop} (h : tl σ H fun x H1 => ∃ a, x = .ref a ∧ (∃ xs, SqL K H1 a xs) ∧ R (Itl K a) H1) : iList K tl σ H R := h
theorem R_itT {a : Addr} {xs : List V} (h : SqT K H a xs) (k : Loop (Itt K a) g tb D σ H) : ∃ b, V.ref a = .ref b ∧ (∃ xs, SqT K H b xs) ∧ Loop (Itt K b) g tb D σ H := ⟨a, rfl, ⟨xs, h⟩, k⟩
theorem R_itL {a : Addr} {xs : List V} (h : SqL K H a xs) (k : Loop (Itl K a) g tb D σ H) : ∃ b, V.ref a = .ref b ∧ (∃ xs, SqL K H b xs) ∧ Loop (Itl K b) g tb D σ H := ⟨a, rfl, ⟨xs, h⟩, k⟩
theorem loop_tup {a : Addr} {xs : List V} (Pv : Nat → Sig → Hp → Prop) (h0 : Pv 0 σ H) (hl : ∀ i σ H, i ≤ xs.length → Pv i σ H → SqT K H a xs)
    (hs : ∀ i x σ H, xs[i]? = some x → Pv i σ H → g x σ H fun σ2 H2 => tb { D with nx := Pv (i + 1), ct := Pv (i + 1), bk := D.nx } σ2 H2) (hd : ∀ σ H, Pv xs.length σ H → D.nx σ H) : Loop (Itt K a) g tb D σ H := for_tup Pv h0 hl hs hd
theorem loop_list {a : Addr} {xs : List V} (Pv : Nat → Sig → Hp → Prop) (h0 : Pv 0 σ H) (hl : ∀ i σ H, i ≤ xs.length → Pv i σ H → SqL K H a xs)
    (hs : ∀ i x σ H, xs[i]? = some x → Pv i σ H → g x σ H fun σ2 H2 => tb { D with nx := Pv (i + 1), ct := Pv (i + 1), bk := D.nx } σ2 H2) (hd : ∀ σ H, Pv xs.length σ H → D.nx σ H) : Loop (Itl K a) g tb D σ H := for_list Pv h0 hl hs hd
theorem loop_range {lo : Int} {n : Nat} (Pv : Nat → Sig → Hp → Prop) (h0 : Pv 0 σ H)
    (hs : ∀ i σ H, i < n → Pv i σ H → g (.int (lo + i)) σ H fun σ2 H2 => tb { D with nx := Pv (i + 1), ct := Pv (i + 1), bk := D.nx } σ2 H2) (hd : ∀ σ H, Pv n σ H → D.nx σ H) : Loop (Itr lo n) g tb D σ H := for_range Pv h0 hs hd
end
end L3
namespace L3
open PySem PySem.Spec PyProof.Rows L2
open PySem.W (WData Codec)
/-! ### the request's arguments -/
theorem dw_lst {K : PySem.W.Frag} {H : Hp} {v : V} {ns : List Int} (h : Dw K H v (.list (ns.map WData.int))) : ∃ a, v = .ref a ∧ SqL K H a (ns.map V.int) := by
  cases h with
  | lst hs ha =>
    have e := ints_dw ns _ ha
    subst e
    exact ⟨_, rfl, hs⟩
theorem dwAll_cons {K : PySem.W.Frag} {H : Hp} {xs : List V} {d : WData} {ds : List WData} (h : DwAll K H xs (d :: ds)) : ∃ v vs, xs = v :: vs ∧ Dw K H v d ∧ DwAll K H vs ds := by
  cases h with
  | cons h1 h2 => exact ⟨_, _, rfl, h1, h2⟩
theorem dwAll_nil {K : PySem.W.Frag} {H : Hp} {xs : List V} (h : DwAll K H xs []) : xs = [] := by
  cases h
  rfl
theorem in_int {lo hi i : Int} (h : Codec.inInt lo hi i = true) : lo ≤ i ∧ i ≤ hi := by
  unfold Codec.inInt at h
  simpa using h
theorem in_list {least most : Nat} {lo hi : Int} {l : List Int} (h : (Codec.inLen least most l && l.all (Codec.inInt lo hi)) = true) : l.length ≤ most ∧ ∀ x ∈ l, lo ≤ x ∧ x ≤ hi := by
  rw [Bool.and_eq_true] at h
  refine ⟨(Codec.inNat_iff.mp h.1).2, fun x m => in_int (List.all_eq_true.mp h.2 x m)⟩
end L3

/-! The panel's bytes as whole numbers, and what the specification says of them. -/
namespace Il
open Plait
def Byt (b : List Int) : Prop := ∀ x ∈ b, 0 ≤ x ∧ x ≤ 255
def bOf (b : List Int) : Bytes := b.map fun (n : Int) => UInt8.ofNat n.toNat
def cp (w h : Int) : Int := (w - 1) * h + w * (h - 1)
def ff (b : List Int) : Option (Int × Int) :=
  if b.length < 6 ∨ b.take 4 ≠ [80, 76, 80, 49] then some (1, 0)
  else if b.getD 4 0 < 1 ∨ 8 < b.getD 4 0 then some (2, 4)
  else if b.getD 5 0 < 1 ∨ 8 < b.getD 5 0 then some (2, 5)
  else if (b.length : Int) ≠ 6 + cp (b.getD 4 0) (b.getD 5 0) then some (1, 4)
  else match (b.drop 6).findIdx? (fun x => decide (2 < x)) with
    | some i => some (3, 6 + (i : Int))
    | none => none
def fr (b : List Int) : Int := if 1024 < b.length then -2 else if ff b = none then 0 else -6
def panel (b : List Int) : Panel := ⟨(b.getD 4 0).toNat, (b.getD 5 0).toNat, (b.drop 6).map Int.toNat⟩
theorem Byt.getD {b : List Int} (h : Byt b) (i : Nat) : 0 ≤ b.getD i 0 ∧ b.getD i 0 ≤ 255 := by
  rw [List.getD_eq_getElem?_getD]
  cases e : b[i]? with
  | none => simp
  | some x => exact h x (List.mem_of_getElem? e)
theorem u8 {x : Int} (h0 : 0 ≤ x) (h1 : x ≤ 255) : (UInt8.ofNat x.toNat).toNat = x.toNat := by
  rw [UInt8.toNat_ofNat']
  exact Nat.mod_eq_of_lt (by omega)
theorem text_of {b : List Int} (h : Byt b) : PlaitNeutral.text? b = some (bOf b) := by
  unfold PlaitNeutral.text? NeutralIO.bytes
  rw [if_pos]
  · rfl
  · rw [List.all_eq_true]
    intro x hx
    obtain ⟨h0, h1⟩ := h x hx
    simp [h0, h1]
theorem bOf_len (b : List Int) : (bOf b).length = b.length := List.length_map _
theorem bOf_getD {b : List Int} (h : Byt b) (i : Nat) : ((bOf b).getD i 0).toNat = (b.getD i 0).toNat := by
  unfold bOf
  rw [List.getD_eq_getElem?_getD, List.getElem?_map, List.getD_eq_getElem?_getD]
  cases e : b[i]? with
  | none => rfl
  | some x =>
    obtain ⟨h0, h1⟩ := h x (List.mem_of_getElem? e)
    show (UInt8.ofNat x.toNat).toNat = x.toNat
    exact u8 h0 h1
theorem bOf_inj : ∀ {b c : List Int}, Byt b → Byt c → bOf b = bOf c → b = c
  | [], [], _, _, _ => rfl
  | [], _ :: _, _, _, e => by cases e
  | _ :: _, [], _, _, e => by cases e
  | x :: r, y :: s, hb, hc, e => by
    have e1 : UInt8.ofNat x.toNat = UInt8.ofNat y.toNat := (List.cons.inj e).1
    have e2 : bOf r = bOf s := (List.cons.inj e).2
    obtain ⟨x0, x1⟩ := hb x (List.mem_cons_self ..)
    obtain ⟨y0, y1⟩ := hc y (List.mem_cons_self ..)
    have e3 := congrArg UInt8.toNat e1
    rw [u8 x0 x1, u8 y0 y1] at e3
    have e4 : x = y := by omega
    rw [e4, bOf_inj (fun z m => hb z (List.mem_cons_of_mem _ m)) (fun z m => hc z (List.mem_cons_of_mem _ m)) e2]
theorem Byt.take {b : List Int} (h : Byt b) (n : Nat) : Byt (b.take n) := fun x m => h x (List.mem_of_mem_take m)
theorem Byt.drop {b : List Int} (h : Byt b) (n : Nat) : Byt (b.drop n) := fun x m => h x (List.mem_of_mem_drop m)
theorem mark_iff {b : List Int} (h : Byt b) : (bOf b).take 4 = MARK ↔ b.take 4 = [80, 76, 80, 49] := by
  have e1 : (bOf b).take 4 = bOf (b.take 4) := by unfold bOf; rw [List.map_take]
  have e2 : MARK = bOf [80, 76, 80, 49] := rfl
  rw [e1, e2]
  refine ⟨fun e => bOf_inj (h.take 4) ?_ e, fun e => by rw [e]⟩
  intro x m
  simp at m
  omega
theorem u8_drop {b : List Int} (h : Byt b) (n : Nat) : ((bOf b).drop n).map UInt8.toNat = (b.drop n).map Int.toNat := by
  have e1 : (bOf b).drop n = bOf (b.drop n) := by unfold bOf; rw [List.map_drop]
  rw [e1]
  unfold bOf
  rw [List.map_map]
  refine List.map_congr_left fun x m => ?_
  obtain ⟨h0, h1⟩ := h.drop n x m
  exact u8 h0 h1
theorem findIdx_map {l : List Int} (h : Byt l) : (l.map Int.toNat).findIdx? (fun (p : Nat) => decide (2 < p)) = l.findIdx? (fun x => decide (2 < x)) := by
  rw [List.findIdx?_map]
  congr 1
  funext x
  show decide (2 < x.toNat) = decide (2 < x)
  exact decide_eq_decide.mpr (by omega)
theorem count_cp {w h : Int} (w0 : 1 ≤ w) (h0 : 1 ≤ h) (l : List Nat) : ((Panel.count ⟨w.toNat, h.toNat, l⟩ : Nat) : Int) = cp w h := by
  unfold Panel.count Panel.uprights cp
  show (((w.toNat - 1) * h.toNat + w.toNat * (h.toNat - 1) : Nat) : Int) = _
  rw [Int.natCast_add, Int.natCast_mul, Int.natCast_mul]
  have e1 : ((w.toNat - 1 : Nat) : Int) = w - 1 := by omega
  have e2 : ((h.toNat - 1 : Nat) : Int) = h - 1 := by omega
  have e3 : (h.toNat : Int) = h := by omega
  have e4 : (w.toNat : Int) = w := by omega
  rw [e1, e2, e3, e4]
/-- **the bytes judged**: by ff -/
theorem judge_of {b : List Int} (h : Byt b) : Plait.judge (bOf b) = match ff b with
    | some (k, p) => .error (k.toNat, p.toNat)
    | none => .ok (panel b) := by
  unfold Plait.judge ff
  rw [bOf_len]
  by_cases c1 : b.length < 6 ∨ b.take 4 ≠ [80, 76, 80, 49]
  · rw [if_pos c1, if_pos (c1.imp id fun n => fun e => n ((mark_iff h).mp e))]
    rfl
  rw [if_neg c1, if_neg (fun z => c1 (z.imp id fun n => fun e => n ((mark_iff h).mpr e)))]
  have g4 := h.getD 4
  have g5 := h.getD 5
  dsimp only
  rw [bOf_getD h 4, bOf_getD h 5, u8_drop h 6]
  by_cases c2 : b.getD 4 0 < 1 ∨ 8 < b.getD 4 0
  · rw [if_pos c2, if_pos (by unfold SIDE; omega)]
    rfl
  rw [if_neg c2, if_neg (by unfold SIDE; omega)]
  by_cases c3 : b.getD 5 0 < 1 ∨ 8 < b.getD 5 0
  · rw [if_pos c3, if_pos (by unfold SIDE; omega)]
    rfl
  rw [if_neg c3, if_neg (by unfold SIDE; omega)]
  have ec := count_cp (w := b.getD 4 0) (h := b.getD 5 0) (by omega) (by omega) ((b.drop 6).map Int.toNat)
  have el : ((b.drop 6).map Int.toNat).length = b.length - 6 := by rw [List.length_map, List.length_drop]
  have nl : 6 ≤ b.length := by
    rcases Nat.lt_or_ge b.length 6 with z | z
    · exact absurd (Or.inl z) c1
    · exact z
  by_cases c4 : (b.length : Int) ≠ 6 + cp (b.getD 4 0) (b.getD 5 0)
  · rw [if_pos c4, if_pos (by rw [el]; omega)]
    rfl
  rw [if_neg c4, if_neg (by rw [el]; omega)]
  rw [findIdx_map (h.drop 6)]
  cases e : (b.drop 6).findIdx? (fun x => decide (2 < x)) with
  | none => rfl
  | some i =>
    show Except.error (3, 6 + i) = Except.error ((3 : Int).toNat, (6 + (i : Int)).toNat)
    have e2 : (6 + (i : Int)).toNat = 6 + i := by omega
    rw [e2]
    rfl
structure Right (b : List Int) : Prop where
  len : (b.length : Int) = 6 + cp (b.getD 4 0) (b.getD 5 0)
  w1 : 1 ≤ b.getD 4 0
  w8 : b.getD 4 0 ≤ 8
  h1 : 1 ≤ b.getD 5 0
  h8 : b.getD 5 0 ≤ 8
  mark : b.take 4 = [80, 76, 80, 49]
  le6 : 6 ≤ b.length
  small : ∀ x ∈ b.drop 6, x ≤ 2
theorem right_of {b : List Int} (h : ff b = none) : Right b := by
  unfold ff at h
  by_cases c1 : b.length < 6 ∨ b.take 4 ≠ [80, 76, 80, 49]
  · rw [if_pos c1] at h; cases h
  rw [if_neg c1] at h
  by_cases c2 : b.getD 4 0 < 1 ∨ 8 < b.getD 4 0
  · rw [if_pos c2] at h; cases h
  rw [if_neg c2] at h
  by_cases c3 : b.getD 5 0 < 1 ∨ 8 < b.getD 5 0
  · rw [if_pos c3] at h; cases h
  rw [if_neg c3] at h
  by_cases c4 : (b.length : Int) ≠ 6 + cp (b.getD 4 0) (b.getD 5 0)
  · rw [if_pos c4] at h; cases h
  rw [if_neg c4] at h
  cases e : (b.drop 6).findIdx? (fun x => decide (2 < x)) with
  | some i => rw [e] at h; cases h
  | none =>
    have nl : 6 ≤ b.length := by
      rcases Nat.lt_or_ge b.length 6 with z | z
      · exact absurd (Or.inl z) c1
      · exact z
    refine ⟨Decidable.not_not.mp c4, by omega, by omega, by omega, by omega, Decidable.not_not.mp fun z => c1 (.inr z), nl, fun x m => ?_⟩
    have q := List.findIdx?_eq_none_iff.mp e x m
    have q2 : ¬ 2 < x := of_decide_eq_false q
    omega
/-- of a panel's bytes: the three ways -/
theorem of_panel {b : List Int} (h : Byt b) (g : Panel → Reply) : ofPanel (bOf b) g = if fr b = 0 then g (panel b) else says (fr b) := by
  unfold ofPanel fr
  rw [bOf_len, judge_of h]
  by_cases c : 1024 < b.length
  · rw [if_pos c, if_pos (show LOOKED < b.length from c), if_neg (by decide)]
    rfl
  rw [if_neg c, if_neg (show ¬ LOOKED < b.length from c)]
  cases e2 : ff b with
  | none =>
    rw [if_pos rfl, if_pos rfl]
  | some kp =>
    obtain ⟨k, p⟩ := kp
    have n : ¬ (some (k, p) : Option (Int × Int)) = none := by simp
    rw [if_neg n, if_neg (show ¬ (-6 : Int) = 0 by decide)]
    rfl
theorem fr_zero {b : List Int} (h : fr b = 0) : ff b = none ∧ b.length ≤ 1024 := by
  unfold fr at h
  by_cases c : 1024 < b.length
  · rw [if_pos c] at h; cases h
  rw [if_neg c] at h
  by_cases c2 : ff b = none
  · exact ⟨c2, by omega⟩
  · rw [if_neg c2] at h; cases h
theorem fr_neg {b : List Int} (h : ¬ fr b = 0) : fr b < 0 := by
  unfold fr at h ⊢
  split
  · decide
  · split
    · rename_i c1 c2
      rw [if_neg c1, if_pos c2] at h
      exact absurd rfl h
    · decide
/-- an answer as a list of whole numbers -/
def told (a : Reply) : List Int := a.ret :: ((a.nums.map fun (n : Nat) => (n : Int)) ++ a.bytes.map fun (b : UInt8) => (b.toNat : Int))
theorem f_told {c : PlaitNeutral.Call} {x : PlaitP.Call} (h : PlaitNeutral.callOf c = some x) : PlaitNeutral.f c = told (PlaitP.answer x) := by
  unfold PlaitNeutral.f
  rw [h]
  rfl
end Il
namespace Il
open Plait
/-! ### the calls of stage 1 -/
/-- an answer of a panel's bytes -/
theorem told_panel {b : List Int} (h : Byt b) (g : Panel → Reply) : told (ofPanel (bOf b) g) = if fr b = 0 then told (g (panel b)) else [fr b] := by
  rw [of_panel h]
  split
  · rfl
  · rfl
theorem state_of {b : List Int} (R : Right b) {p : Nat} (hp : p < (b.drop 6).length) : ((panel b).state p : Int) = b.getD (6 + p) 0 ∨ b.getD (6 + p) 0 < 0 := by
  unfold Panel.state panel
  dsimp only
  rw [List.getD_eq_getElem?_getD, List.getElem?_map, List.getElem?_eq_getElem hp, List.getD_eq_getElem?_getD]
  rw [List.length_drop] at hp
  rw [List.getElem?_eq_getElem (by omega), List.getElem_drop]
  show ((b[6 + p].toNat : Nat) : Int) = b[6 + p] ∨ b[6 + p] < 0
  omega
/-! squares -/
def sqs (p w h : Int) : Int × Int := if p < (w - 1) * h then (p / (w - 1) * w + p % (w - 1), p / (w - 1) * w + p % (w - 1) + 1) else (p - (w - 1) * h, p - (w - 1) * h + w)
theorem wide_of {b : List Int} (R : Right b) : ((panel b).wide : Int) = b.getD 4 0 := by
  show (((b.getD 4 0).toNat : Nat) : Int) = _
  have := R.w1
  omega
theorem high_of {b : List Int} (R : Right b) : ((panel b).high : Int) = b.getD 5 0 := by
  show (((b.getD 5 0).toNat : Nat) : Int) = _
  have := R.h1
  omega
theorem count_of {b : List Int} (R : Right b) : ((panel b).count : Int) = cp (b.getD 4 0) (b.getD 5 0) := count_cp (w := b.getD 4 0) (h := b.getD 5 0) R.w1 R.h1 ((b.drop 6).map Int.toNat)
theorem uprights_of {b : List Int} (R : Right b) : ((panel b).uprights : Int) = (b.getD 4 0 - 1) * b.getD 5 0 := by
  unfold Panel.uprights
  have e1 := wide_of R
  have e2 := high_of R
  have w1 := R.w1
  rw [Int.natCast_mul, e2]
  congr 1
  omega
theorem squaresAt_of {b : List Int} (R : Right b) {p : Int} (h0 : 0 ≤ p) (D : Panel) (hD : D = panel b) : (((D.squaresAt p.toNat).1 : Nat) : Int) = (sqs p (b.getD 4 0) (b.getD 5 0)).1 ∧ (((D.squaresAt p.toNat).2 : Nat) : Int) = (sqs p (b.getD 4 0) (b.getD 5 0)).2 := by
  subst hD
  have e1 := wide_of R
  have eu := uprights_of R
  have w1 := R.w1
  unfold Panel.squaresAt sqs
  rw [← eu]
  by_cases c : p < ((panel b).uprights : Int)
  · rw [if_pos c, if_pos (by omega)]
    dsimp only
    have e3 : (((panel b).wide - 1 : Nat) : Int) = b.getD 4 0 - 1 := by omega
    have e4 : ((p.toNat : Nat) : Int) = p := by omega
    refine ⟨?_, ?_⟩
    · rw [Int.natCast_add, Int.natCast_mul, Int.natCast_ediv, Int.natCast_emod, e3, e4, e1]
    · rw [Int.natCast_add, Int.natCast_add, Int.natCast_mul, Int.natCast_ediv, Int.natCast_emod, e3, e4, e1]
      rfl
  · rw [if_neg c, if_neg (by omega)]
    dsimp only
    refine ⟨by omega, by omega⟩
/-! set -/
/-! place -/
theorem small_cp {w h : Int} (w1 : 1 ≤ w) (w8 : w ≤ 8) (h1 : 1 ≤ h) (h8 : h ≤ 8) : 0 ≤ cp w h ∧ cp w h ≤ 112 := by
  obtain ⟨n, rfl⟩ : ∃ n : Nat, w = n := ⟨w.toNat, by omega⟩
  obtain ⟨m, rfl⟩ : ∃ n : Nat, h = n := ⟨h.toNat, by omega⟩
  have a : n = 1 ∨ n = 2 ∨ n = 3 ∨ n = 4 ∨ n = 5 ∨ n = 6 ∨ n = 7 ∨ n = 8 := by omega
  unfold cp
  rcases a with rfl | rfl | rfl | rfl | rfl | rfl | rfl | rfl <;> omega
theorem state_at {b : List Int} (hb : Byt b) (R : Right b) {p : Int} (p0 : 0 ≤ p) (p1 : p < cp (b.getD 4 0) (b.getD 5 0)) : ((panel b).state p.toNat : Int) = b.getD (6 + p).toNat 0 := by
  have e6 : (6 + p).toNat = 6 + p.toNat := by omega
  rw [e6]
  have hl := R.len
  have hp : p.toNat < (b.drop 6).length := by rw [List.length_drop]; omega
  rcases state_of R hp with q | q
  · exact q
  · have := hb.getD (6 + p.toNat)
    omega
end Il

/-! Ends are joined two by two: the specification's own joined. -/
namespace Plait
theorem sq_split (D : Panel) {s : Nat} (h : s < D.squares) : ∃ r c, s = r * D.wide + c ∧ c < D.wide ∧ r < D.high := by
  unfold Panel.squares at h
  have hw : 0 < D.wide := by
    rcases Nat.eq_zero_or_pos D.wide with z | z
    · rw [z, Nat.zero_mul] at h; omega
    · exact z
  refine ⟨s / D.wide, s % D.wide, ?_, Nat.mod_lt _ hw, ?_⟩
  · rw [Nat.mul_comm]; exact (Nat.div_add_mod s D.wide).symm
  · exact Nat.div_lt_of_lt_mul h
theorem rc_row {D : Panel} {r c : Nat} (h : c < D.wide) : D.row (r * D.wide + c) = r := by
  unfold Panel.row
  rw [Nat.mul_comm, Nat.mul_add_div (by omega), Nat.div_eq_of_lt h, Nat.add_zero]
theorem rc_col {D : Panel} {r c : Nat} (h : c < D.wide) : D.col (r * D.wide + c) = c := by
  unfold Panel.col
  rw [Nat.mul_comm, Nat.mul_add_mod, Nat.mod_eq_of_lt h]
theorem rc_lt {D : Panel} {r c : Nat} (h : c < D.wide) (hr : r < D.high) : r * D.wide + c < D.squares := by
  unfold Panel.squares
  have : (r + 1) * D.wide ≤ D.high * D.wide := Nat.mul_le_mul_right _ hr
  rw [Nat.add_mul, Nat.one_mul] at this
  rw [Nat.mul_comm D.wide]
  omega
/-- what is beyond, by row and column -/
theorem rc_beyond {D : Panel} {r c k : Nat} (h : c < D.wide) (hr : r < D.high) : D.beyond (r * D.wide + c) k =
    if k = 0 then (if 0 < r then some ((r - 1) * D.wide + c) else none)
    else if k = 1 then (if c + 1 < D.wide then some (r * D.wide + (c + 1)) else none)
    else if k = 2 then (if r + 1 < D.high then some ((r + 1) * D.wide + c) else none)
    else (if 0 < c then some (r * D.wide + (c - 1)) else none) := by
  unfold Panel.beyond
  rw [rc_row h, rc_col h]
  split
  · split
    · congr 1
      obtain ⟨q, rfl⟩ : ∃ q, r = q + 1 := ⟨r - 1, by omega⟩
      rw [Nat.add_sub_cancel, Nat.add_mul, Nat.one_mul]
      omega
    · rfl
  · split
    · rfl
    · split
      · rw [Nat.add_mul, Nat.one_mul]
        split
        · congr 1
          omega
        · rfl
      · split
        · congr 1
          omega
        · rfl
theorem rc_place {D : Panel} {r c k : Nat} (h : c < D.wide) : D.placeOf (r * D.wide + c) k =
    if k = 1 then r * (D.wide - 1) + c else if k = 3 then r * (D.wide - 1) + (c - 1) else if k = 2 then D.uprights + (r * D.wide + c) else D.uprights + ((r - 1) * D.wide + c) := by
  unfold Panel.placeOf
  rw [rc_row h, rc_col h]
/-- **beyond is mutual**: the square beyond has this one beyond its opposite side, at the same place -/
theorem beyond_back {D : Panel} {s k t : Nat} (hs : s < D.squares) (hk : k < 4) (h : D.beyond s k = some t) : t < D.squares ∧ D.beyond t ((k + 2) % 4) = some s ∧ D.placeOf t ((k + 2) % 4) = D.placeOf s k ∧ t ≠ s := by
  obtain ⟨r, c, rfl, hc, hr⟩ := sq_split D hs
  rw [rc_beyond hc hr] at h
  have kk : k = 0 ∨ k = 1 ∨ k = 2 ∨ k = 3 := by omega
  rcases kk with rfl | rfl | rfl | rfl
  · rw [if_pos rfl] at h
    split at h
    case isFalse => cases h
    rename_i q0
    cases h
    obtain ⟨q, rfl⟩ : ∃ q, r = q + 1 := ⟨r - 1, by omega⟩
    rw [Nat.add_sub_cancel]
    refine ⟨rc_lt hc (by omega), ?_, ?_, ?_⟩
    · rw [rc_beyond hc (by omega)]
      show (if q + 1 < D.high then _ else _) = _
      rw [if_pos (by omega)]
    · rw [rc_place hc, rc_place hc]
      show D.uprights + (q * D.wide + c) = D.uprights + ((q + 1 - 1) * D.wide + c)
      rfl
    · rw [Nat.add_mul]; omega
  · rw [if_neg (by decide), if_pos rfl] at h
    split at h
    case isFalse => cases h
    rename_i q
    cases h
    refine ⟨rc_lt q hr, ?_, ?_, by omega⟩
    · rw [rc_beyond q hr]
      rw [if_neg (by decide), if_neg (by decide), if_neg (by decide), if_pos (by omega)]
      rfl
    · rw [rc_place q, rc_place hc]
      show r * (D.wide - 1) + (c + 1 - 1) = r * (D.wide - 1) + c
      rfl
  · rw [if_neg (by decide), if_neg (by decide), if_pos rfl] at h
    split at h
    case isFalse => cases h
    rename_i q
    cases h
    refine ⟨rc_lt hc q, ?_, ?_, ?_⟩
    · rw [rc_beyond hc q]
      rw [if_pos (by decide), if_pos (by omega)]
      rfl
    · rw [rc_place hc, rc_place hc]
      show D.uprights + ((r + 1 - 1) * D.wide + c) = D.uprights + (r * D.wide + c)
      rfl
    · rw [Nat.add_mul]; omega
  · rw [if_neg (by decide), if_neg (by decide), if_neg (by decide)] at h
    split at h
    case isFalse => cases h
    rename_i q0
    cases h
    obtain ⟨q, rfl⟩ : ∃ q, c = q + 1 := ⟨c - 1, by omega⟩
    rw [Nat.add_sub_cancel]
    have hq : q < D.wide := by omega
    refine ⟨rc_lt hq hr, ?_, ?_, by omega⟩
    · rw [rc_beyond hq hr]
      show (if q + 1 < D.wide then _ else _) = _
      rw [if_pos (by omega)]
    · rw [rc_place hq, rc_place hc]
      show r * (D.wide - 1) + q = r * (D.wide - 1) + (q + 1 - 1)
      rfl
/-! ends by square, side, and which -/
theorem first_sq (s k : Nat) (h : k < 4) : squareOf (firstEnd s k) = s := by unfold squareOf firstEnd; omega
theorem last_sq (s k : Nat) (h : k < 4) : squareOf (lastEnd s k) = s := by unfold squareOf lastEnd; omega
theorem first_side (s k : Nat) (h : k < 4) : sideOf (firstEnd s k) = k := by unfold sideOf firstEnd; omega
theorem last_side (s k : Nat) (h : k < 4) : sideOf (lastEnd s k) = k := by unfold sideOf lastEnd; omega
theorem first_ne_last (s k : Nat) : firstEnd s k ≠ lastEnd s k := by unfold firstEnd lastEnd; omega
theorem end_split (e : Nat) : (∃ s k, k < 4 ∧ e = firstEnd s k) ∨ ∃ s k, k < 4 ∧ e = lastEnd s k := by
  rcases Nat.mod_two_eq_zero_or_one e with z | z
  · exact .inl ⟨e / 8, (e / 2) % 4, by omega, by unfold firstEnd; omega⟩
  · exact .inr ⟨e / 8, ((e / 2) % 4 + 1) % 4, by omega, by unfold lastEnd; omega⟩
theorem beside_first (s k : Nat) (h : k < 4) : besideEnd (firstEnd s k) = lastEnd s k := by
  unfold besideEnd
  rw [first_sq s k h, first_side s k h, if_pos rfl]
theorem beside_last (s k : Nat) (h : k < 4) : besideEnd (lastEnd s k) = firstEnd s k := by
  unfold besideEnd
  rw [last_sq s k h, last_side s k h, if_neg (first_ne_last s k).symm]
theorem first_lt {D : Panel} {s k : Nat} (h : k < 4) : firstEnd s k < D.ends ↔ s < D.squares := by unfold firstEnd Panel.ends; omega
theorem last_lt {D : Panel} {s k : Nat} (h : k < 4) : lastEnd s k < D.ends ↔ s < D.squares := by unfold lastEnd Panel.ends; omega
/-- an end, by a bit: which of the two at that side -/
def endAt (f : Bool) (s k : Nat) : Nat := if f = true then firstEnd s k else lastEnd s k
theorem endAt_split (e : Nat) : ∃ f s k, k < 4 ∧ e = endAt f s k := by
  rcases end_split e with ⟨s, k, hk, rfl⟩ | ⟨s, k, hk, rfl⟩
  · exact ⟨true, s, k, hk, rfl⟩
  · exact ⟨false, s, k, hk, rfl⟩
theorem endAt_sq (f : Bool) (s k : Nat) (h : k < 4) : squareOf (endAt f s k) = s := by
  cases f
  · exact last_sq s k h
  · exact first_sq s k h
theorem endAt_side (f : Bool) (s k : Nat) (h : k < 4) : sideOf (endAt f s k) = k := by
  cases f
  · exact last_side s k h
  · exact first_side s k h
theorem endAt_lt {D : Panel} {f : Bool} {s k : Nat} (h : k < 4) : endAt f s k < D.ends ↔ s < D.squares := by
  cases f
  · exact last_lt h
  · exact first_lt h
theorem endAt_beside (f : Bool) (s k : Nat) (h : k < 4) : besideEnd (endAt f s k) = endAt (!f) s k := by
  cases f
  · exact beside_last s k h
  · exact beside_first s k h
theorem endAt_isFirst (f : Bool) (s k : Nat) : (endAt f s k = firstEnd s k) ↔ f = true := by
  cases f
  · exact ⟨fun e => absurd e.symm (first_ne_last s k), fun e => by cases e⟩
  · exact ⟨fun _ => rfl, fun _ => rfl⟩
/-- joined, by square, side and bit -/
theorem joined_at (D : Panel) (f : Bool) (s k : Nat) (hk : k < 4) : D.joined (endAt f s k) = match D.beyond s k with
    | none => endAt (!f) s k
    | some t => if D.state (D.placeOf s k) = 1 then endAt (!f) s k else if D.state (D.placeOf s k) = 2 then endAt (!f) t ((k + 2) % 4) else endAt f t ((k + 2) % 4) := by
  unfold Panel.joined
  rw [endAt_sq f s k hk, endAt_side f s k hk]
  cases e : D.beyond s k with
  | none => exact endAt_beside f s k hk
  | some t =>
    dsimp only
    rw [endAt_beside f s k hk]
    have q : (if endAt f s k = firstEnd s k then firstEnd t ((k + 2) % 4) else lastEnd t ((k + 2) % 4)) = endAt f t ((k + 2) % 4) := by
      cases f
      · rw [if_neg (by rw [endAt_isFirst]; decide)]; rfl
      · rw [if_pos (by rw [endAt_isFirst])]; rfl
    rw [q, endAt_beside f t _ (Nat.mod_lt _ (by decide))]
theorem back2 {k : Nat} (h : k < 4) : ((k + 2) % 4 + 2) % 4 = k := by omega
theorem joined_lt (D : Panel) {e : Nat} (h : e < D.ends) : D.joined e < D.ends := by
  obtain ⟨f, s, k, hk, rfl⟩ := endAt_split e
  have hs := (endAt_lt hk).mp h
  rw [joined_at D f s k hk]
  cases e : D.beyond s k with
  | none => exact (endAt_lt hk).mpr hs
  | some t =>
    obtain ⟨ht, _⟩ := beyond_back hs hk e
    dsimp only
    split
    · exact (endAt_lt hk).mpr hs
    · split
      · exact (endAt_lt (Nat.mod_lt _ (by decide))).mpr ht
      · exact (endAt_lt (Nat.mod_lt _ (by decide))).mpr ht
theorem joined_joined (D : Panel) {e : Nat} (h : e < D.ends) : D.joined (D.joined e) = e := by
  obtain ⟨f, s, k, hk, rfl⟩ := endAt_split e
  have hs := (endAt_lt hk).mp h
  rw [joined_at D f s k hk]
  cases e : D.beyond s k with
  | none =>
    dsimp only
    rw [joined_at D _ s k hk, e, Bool.not_not]
  | some t =>
    obtain ⟨ht, hb, hp, _⟩ := beyond_back hs hk e
    have hk2 : (k + 2) % 4 < 4 := Nat.mod_lt _ (by decide)
    dsimp only
    split
    · rename_i c
      rw [joined_at D _ s k hk, e, Bool.not_not]
      dsimp only
      rw [if_pos c]
    · rename_i c
      split
      · rename_i c2
        rw [joined_at D _ t _ hk2, hb]
        dsimp only
        rw [hp, if_neg c, if_pos c2, back2 hk, Bool.not_not]
      · rename_i c2
        rw [joined_at D _ t _ hk2, hb]
        dsimp only
        rw [hp, if_neg c, if_neg c2, back2 hk]
theorem piece_beside (f : Bool) (s k : Nat) (hk : k < 4) : pieceOf (endAt (!f) s k) ≠ pieceOf (endAt f s k) := by
  cases f
  · show firstEnd s k / 2 ≠ lastEnd s k / 2
    unfold firstEnd lastEnd
    omega
  · show lastEnd s k / 2 ≠ firstEnd s k / 2
    unfold firstEnd lastEnd
    omega
theorem piece_sq (f : Bool) (s k : Nat) (hk : k < 4) : pieceOf (endAt f s k) / 4 = s := by
  have := endAt_sq f s k hk
  unfold squareOf at this
  unfold pieceOf
  omega
/-- **joined ends are of different pieces** -/
theorem joined_piece (D : Panel) {e : Nat} (h : e < D.ends) : pieceOf (D.joined e) ≠ pieceOf e := by
  obtain ⟨f, s, k, hk, rfl⟩ := endAt_split e
  have hs := (endAt_lt hk).mp h
  rw [joined_at D f s k hk]
  cases e : D.beyond s k with
  | none => exact piece_beside f s k hk
  | some t =>
    obtain ⟨ht, hb, hp, hne⟩ := beyond_back hs hk e
    have hk2 : (k + 2) % 4 < 4 := Nat.mod_lt _ (by decide)
    dsimp only
    have d : ∀ g, pieceOf (endAt g t ((k + 2) % 4)) ≠ pieceOf (endAt f s k) := fun g q => by
      have q2 : pieceOf (endAt g t ((k + 2) % 4)) / 4 = pieceOf (endAt f s k) / 4 := by rw [q]
      rw [piece_sq g t _ hk2, piece_sq f s k hk] at q2
      exact hne q2
    split
    · exact piece_beside f s k hk
    · split
      · exact d _
      · exact d _
end Plait

/-! Courses: each piece is of one strand; a course goes round once. -/
namespace Plait
/-- pigeonhole: numbers below n, no two alike, are at most n -/
theorem nodup_le : ∀ {n : Nat} {l : List Nat}, l.Nodup → (∀ x ∈ l, x < n) → l.length ≤ n
  | 0, l, _, h => by
    cases l with
    | nil => exact Nat.le_refl 0
    | cons a r => exact absurd (h a (List.mem_cons_self ..)) (by omega)
  | n + 1, l, hd, h => by
    by_cases m : n ∈ l
    · have e := List.length_erase_of_mem m
      have hd' : (l.erase n).Nodup := hd.erase n
      have h' : ∀ x ∈ l.erase n, x < n := fun x hx => by
        have h1 := h x (List.mem_of_mem_erase hx)
        have h2 : x ≠ n := fun z => by
          rw [z] at hx
          exact (List.Nodup.not_mem_erase hd) hx
        omega
      have := nodup_le hd' h'
      omega
    · have h' : ∀ x ∈ l, x < n := fun x hx => by
        have h1 := h x hx
        have h2 : x ≠ n := fun z => m (z ▸ hx)
        omega
      have := nodup_le hd h'
      omega
theorem nodup_map {f : Nat → Nat} : ∀ {l : List Nat}, l.Nodup → (∀ x ∈ l, ∀ y ∈ l, f x = f y → x = y) → (l.map f).Nodup
  | [], _, _ => List.nodup_nil
  | a :: r, h, hf => by
    obtain ⟨h1, h2⟩ := List.nodup_cons.mp h
    rw [List.map_cons]
    refine List.nodup_cons.mpr ⟨fun m => ?_, nodup_map h2 fun x hx y hy => hf x (List.mem_cons_of_mem _ hx) y (List.mem_cons_of_mem _ hy)⟩
    obtain ⟨x, hx, e⟩ := List.mem_map.mp m
    have := hf x (List.mem_cons_of_mem _ hx) a (List.mem_cons_self ..) e
    exact h1 (this ▸ hx)
theorem other_other (e : Nat) : otherEnd (otherEnd e) = e := by unfold otherEnd; split <;> split <;> omega
theorem other_ne (e : Nat) : otherEnd e ≠ e := by unfold otherEnd; split <;> omega
theorem other_piece (e : Nat) : pieceOf (otherEnd e) = pieceOf e := by unfold otherEnd pieceOf; split <;> omega
theorem other_lt {D : Panel} {e : Nat} (h : e < D.ends) : otherEnd e < D.ends := by unfold otherEnd Panel.ends at *; split <;> omega
theorem piece_lt {D : Panel} {e : Nat} : pieceOf e < D.pieces ↔ e < D.ends := by unfold pieceOf Panel.ends Panel.pieces; omega
theorem same_piece {e f : Nat} (h : pieceOf e = pieceOf f) : e = f ∨ e = otherEnd f := by
  unfold pieceOf at h
  unfold otherEnd
  split <;> omega
theorem piece_two (i : Nat) : pieceOf (2 * i) = i := by unfold pieceOf; omega
/-- so many pieces on -/
def Panel.on (D : Panel) : Nat → Nat → Nat
  | 0, e => e
  | n + 1, e => Panel.on D n (D.next e)
section
variable (D : Panel)
theorem next_lt {e : Nat} (h : e < D.ends) : D.next e < D.ends := joined_lt D (other_lt h)
/-- the end at which the piece before was entered -/
def Panel.prev (e : Nat) : Nat := otherEnd (D.joined e)
theorem prev_next {e : Nat} (h : e < D.ends) : D.prev (D.next e) = e := by
  unfold Panel.prev Panel.next
  rw [joined_joined D (other_lt h), other_other]
theorem next_inj {e f : Nat} (he : e < D.ends) (hf : f < D.ends) (h : D.next e = D.next f) : e = f := by
  rw [← prev_next D he, h, prev_next D hf]
theorem on_lt : ∀ (n : Nat) {e : Nat}, e < D.ends → D.on n e < D.ends
  | 0, _, h => h
  | n + 1, _, h => on_lt n (next_lt D h)
theorem on_succ : ∀ (n e : Nat), D.on (n + 1) e = D.next (D.on n e)
  | 0, _ => rfl
  | n + 1, e => on_succ n (D.next e)
theorem on_add : ∀ (n m e : Nat), D.on (n + m) e = D.on n (D.on m e)
  | n, 0, _ => rfl
  | n, m + 1, e => on_add n m (D.next e)
theorem on_inj : ∀ (n : Nat) {e f : Nat}, e < D.ends → f < D.ends → D.on n e = D.on n f → e = f
  | 0, _, _, _, _, h => h
  | n + 1, _, _, he, hf, h => next_inj D he hf (on_inj n (next_lt D he) (next_lt D hf) h)
/-- a course never enters a piece from both ends -/
theorem on_ne_other : ∀ (k : Nat) {a : Nat}, a < D.ends → D.on k a ≠ otherEnd a
  | 0, a, _, h => other_ne a h.symm
  | 1, a, ha, h => by
    have q : D.joined (otherEnd a) = otherEnd a := h
    exact joined_piece D (other_lt ha) (by rw [q])
  | k + 2, a, ha, h => by
    have h2 : D.on (k + 1) (D.next a) = otherEnd a := h
    rw [on_succ] at h2
    have ha' := next_lt D ha
    have h3 : D.joined (otherEnd (D.on k (D.next a))) = otherEnd a := h2
    have h4 : otherEnd (D.on k (D.next a)) = D.next a := by
      have := congrArg D.joined h3
      rw [joined_joined D (other_lt (on_lt D k ha'))] at this
      exact this
    have h5 : D.on k (D.next a) = otherEnd (D.next a) := by rw [← h4, other_other, h4]
    exact on_ne_other k ha' h5
/-- **a course goes round once**: after m pieces one is back, and no piece was entered twice -/
theorem round {a : Nat} (ha : a < D.ends) : ∃ m, 0 < m ∧ m ≤ D.pieces ∧ D.on m a = a ∧ (∀ j, 0 < j → j < m → D.on j a ≠ a) ∧ ∀ i j, i < m → j < m → pieceOf (D.on i a) = pieceOf (D.on j a) → i = j := by
  -- no return within n pieces: they are n different ones
  have diff : ∀ n, (∀ j, 0 < j → j < n → D.on j a ≠ a) → ∀ i j, i < n → j < n → i ≤ j → pieceOf (D.on i a) = pieceOf (D.on j a) → i = j := by
    intro n hn i j hi hj hij hp
    rcases same_piece hp.symm with e | e
    · rcases Nat.eq_or_lt_of_le hij with z | z
      · exact z
      · have e2 : D.on i (D.on (j - i) a) = D.on i a := by rw [← on_add, show i + (j - i) = j by omega]; exact e
        exact absurd (on_inj D i (on_lt D _ ha) ha e2) (hn (j - i) (by omega) (by omega))
    · have e2 : D.on (j - i) (D.on i a) = otherEnd (D.on i a) := by rw [← on_add, show j - i + i = j by omega]; exact e
      exact absurd e2 (on_ne_other D (j - i) (on_lt D i ha))
  have bound : ∀ n, (∀ j, 0 < j → j < n → D.on j a ≠ a) → n ≤ D.pieces := by
    intro n hn
    have nd : ((List.range n).map fun i => pieceOf (D.on i a)).Nodup := by
      refine nodup_map List.nodup_range ?_
      intro i hi j hj e
      rw [List.mem_range] at hi hj
      rcases Nat.le_total i j with z | z
      · exact diff n hn i j hi hj z e
      · exact (diff n hn j i hj hi z e.symm).symm
    have := nodup_le nd (n := D.pieces) fun x hx => by
      obtain ⟨i, _, rfl⟩ := List.mem_map.mp hx
      exact piece_lt.mpr (on_lt D i ha)
    rw [List.length_map, List.length_range] at this
    exact this
  -- the first return
  have find : ∀ n, (∀ j, 0 < j → j < n → D.on j a ≠ a) ∨ ∃ m, 0 < m ∧ m < n ∧ D.on m a = a ∧ ∀ j, 0 < j → j < m → D.on j a ≠ a := by
    intro n
    induction n with
    | zero => exact .inl fun j _ h => absurd h (by omega)
    | succ n ih =>
      rcases ih with h | ⟨m, h1, h2, h3, h4⟩
      · by_cases c : 0 < n ∧ D.on n a = a
        · exact .inr ⟨n, c.1, by omega, c.2, h⟩
        · refine .inl fun j j0 jn => ?_
          rcases Nat.eq_or_lt_of_le (Nat.le_of_lt_succ jn) with z | z
          · exact fun e => c ⟨by omega, by rw [← z]; exact e⟩
          · exact h j j0 z
      · exact .inr ⟨m, h1, by omega, h3, h4⟩
  rcases find (D.pieces + 2) with h | ⟨m, h1, h2, h3, h4⟩
  · have := bound _ h
    omega
  · refine ⟨m, h1, bound m h4, h3, h4, fun i j hi hj e => ?_⟩
    rcases Nat.le_total i j with z | z
    · exact diff m h4 i j hi hj z e
    · exact (diff m h4 j i hj hi z e.symm).symm
theorem back_eq {a m : Nat} (h3 : D.on m a = a) (h4 : ∀ j, 0 < j → j < m → D.on j a ≠ a) : ∀ (n i : Nat), 0 < i → i ≤ m → m ≤ n + i → D.back n a (D.on i a) = (List.range (m - i)).map fun j => D.on (i + j) a
  | 0, i, i0, im, hn => by
    rw [show m - i = 0 by omega]
    rfl
  | n + 1, i, i0, im, hn => by
    rcases Nat.eq_or_lt_of_le im with z | z
    · subst z
      show (if D.on i a = a then [] else _) = _
      rw [if_pos h3, Nat.sub_self]
      rfl
    · show (if D.on i a = a then [] else D.on i a :: D.back n a (D.next (D.on i a))) = _
      rw [if_neg (h4 i i0 z), ← on_succ, back_eq h3 h4 n (i + 1) (by omega) z (by omega)]
      obtain ⟨d, e⟩ : ∃ d, m - i = d + 1 := ⟨m - i - 1, by omega⟩
      rw [e, show m - (i + 1) = d by omega, List.range_succ_eq_map, List.map_cons, List.map_map]
      congr 1
      refine List.map_congr_left fun j _ => ?_
      show D.on (i + 1 + j) a = D.on (i + (j + 1)) a
      rw [show i + 1 + j = i + (j + 1) by omega]
/-- **the course of a piece's strand**, with its length -/
theorem course_eq {i : Nat} (hi : i < D.pieces) : ∃ m, 0 < m ∧ m ≤ D.pieces ∧ D.on m (2 * i) = 2 * i ∧ (∀ j, 0 < j → j < m → D.on j (2 * i) ≠ 2 * i) ∧ (∀ k j, k < m → j < m → pieceOf (D.on k (2 * i)) = pieceOf (D.on j (2 * i)) → k = j) ∧
    D.courseFrom i = (List.range m).map fun j => D.on j (2 * i) := by
  have ha : 2 * i < D.ends := by unfold Panel.ends; unfold Panel.pieces at hi; omega
  obtain ⟨m, h1, h2, h3, h4, h5⟩ := round D ha
  refine ⟨m, h1, h2, h3, h4, h5, ?_⟩
  unfold Panel.courseFrom
  have e : D.next (2 * i) = D.on 1 (2 * i) := rfl
  rw [e, back_eq D h3 h4 D.pieces 1 (by omega) h1 (by omega)]
  obtain ⟨d, rfl⟩ : ∃ d, m = d + 1 := ⟨m - 1, by omega⟩
  rw [List.range_succ_eq_map, List.map_cons, List.map_map, Nat.add_sub_cancel]
  congr 1
  refine List.map_congr_left fun j _ => ?_
  show D.on (1 + j) (2 * i) = D.on (j + 1) (2 * i)
  rw [Nat.add_comm]
/-! ### pieces of one strand -/
/-- i' is of i's strand -/
def Panel.With (i j : Nat) : Prop := ∃ n, pieceOf (D.on n (2 * i)) = j
theorem on_mod {a m : Nat} (h : D.on m a = a) : ∀ k n, D.on (n + k * m) a = D.on n a
  | 0, n => by rw [Nat.zero_mul, Nat.add_zero]
  | k + 1, n => by
    rw [Nat.add_mul, Nat.one_mul, ← Nat.add_assoc, on_add, h]
    exact on_mod h k n
/-- the way back: from the other end of the n-th piece -/
theorem on_back {a : Nat} (ha : a < D.ends) : ∀ (k n : Nat), k ≤ n → D.on k (otherEnd (D.on n a)) = otherEnd (D.on (n - k) a)
  | 0, n, _ => rfl
  | k + 1, n, h => by
    obtain ⟨q, rfl⟩ : ∃ q, n = q + 1 := ⟨n - 1, by omega⟩
    have e : D.next (otherEnd (D.on (q + 1) a)) = otherEnd (D.on q a) := by
      unfold Panel.next
      rw [other_other, on_succ]
      exact joined_joined D (other_lt (on_lt D q ha))
    show D.on k (D.next (otherEnd (D.on (q + 1) a))) = _
    rw [e, on_back ha k q (by omega)]
    congr 2
    omega
theorem with_refl (i : Nat) : D.With i i := ⟨0, piece_two i⟩
theorem ends_two {i : Nat} (hi : i < D.pieces) : 2 * i < D.ends := by unfold Panel.ends; unfold Panel.pieces at hi; omega
theorem two_of {e j : Nat} (h : pieceOf e = j) : e = 2 * j ∨ e = otherEnd (2 * j) := by
  rw [← piece_two j] at h
  exact same_piece h
theorem with_lt {i j : Nat} (hi : i < D.pieces) (h : D.With i j) : j < D.pieces := by
  obtain ⟨n, rfl⟩ := h
  exact piece_lt.mpr (on_lt D n (ends_two D hi))
/-- whoever is met from a piece of i's strand is of i's strand -/
theorem with_trans {i j k : Nat} (hi : i < D.pieces) (h : D.With i j) (h' : D.With j k) : D.With i k := by
  obtain ⟨n, hn⟩ := h
  obtain ⟨l, hl⟩ := h'
  have ha := ends_two D hi
  obtain ⟨m, m0, _, hm, _⟩ := round D ha
  rcases two_of hn with e | e
  · exact ⟨l + n, by rw [on_add, e]; exact hl⟩
  · have e2 : 2 * j = otherEnd (D.on n (2 * i)) := by rw [e, other_other]
    have e3 : D.on n (2 * i) = D.on (n + l * m) (2 * i) := (on_mod D hm l n).symm
    have lm : l ≤ l * m := Nat.le_mul_of_pos_right l m0
    refine ⟨n + l * m - l, ?_⟩
    rw [← hl, e2, e3, on_back D ha l (n + l * m) (by omega), other_piece]
theorem with_symm {i j : Nat} (hi : i < D.pieces) (h : D.With i j) : D.With j i := by
  obtain ⟨n, hn⟩ := h
  have ha := ends_two D hi
  obtain ⟨m, m0, _, hm, _⟩ := round D ha
  have nm : n ≤ n * m := Nat.le_mul_of_pos_right n m0
  rcases two_of hn with e | e
  · refine ⟨n * m - n, ?_⟩
    rw [← e, ← on_add, show n * m - n + n = 0 + n * m by omega, on_mod D hm n 0]
    exact piece_two i
  · have e2 : 2 * j = otherEnd (D.on n (2 * i)) := by rw [e, other_other]
    refine ⟨n, ?_⟩
    rw [e2, on_back D ha n n (Nat.le_refl _), Nat.sub_self, other_piece]
    exact piece_two i
/-- the pieces of a course are those of the strand -/
theorem mem_course {i j : Nat} (hi : i < D.pieces) : (∃ e ∈ D.courseFrom i, pieceOf e = j) ↔ D.With i j := by
  obtain ⟨m, m0, _, hm, _, _, hc⟩ := course_eq D hi
  rw [hc]
  constructor
  · rintro ⟨e, he, rfl⟩
    obtain ⟨n, _, rfl⟩ := List.mem_map.mp he
    exact ⟨n, rfl⟩
  · rintro ⟨n, rfl⟩
    refine ⟨D.on (n % m) (2 * i), List.mem_map.mpr ⟨n % m, List.mem_range.mpr (Nat.mod_lt _ m0), rfl⟩, ?_⟩
    have := on_mod D hm (n / m) (n % m)
    rw [Nat.mul_comm, Nat.mod_add_div] at this
    rw [← this]
/-! ### the least piece -/
theorem foldl_min : ∀ (l : List Nat) (x : Nat), (∀ y ∈ l, l.foldl (fun (m e : Nat) => min m (pieceOf e)) x ≤ pieceOf y) ∧ l.foldl (fun (m e : Nat) => min m (pieceOf e)) x ≤ x ∧ (l.foldl (fun (m e : Nat) => min m (pieceOf e)) x = x ∨ ∃ y ∈ l, l.foldl (fun (m e : Nat) => min m (pieceOf e)) x = pieceOf y)
  | [], x => ⟨fun _ h => (nomatch h), Nat.le_refl _, Or.inl rfl⟩
  | a :: r, x => by
    obtain ⟨h1, h2, h3⟩ := foldl_min r (min x (pieceOf a))
    rw [List.foldl_cons]
    refine ⟨fun y hy => ?_, Nat.le_trans h2 (Nat.min_le_left _ _), ?_⟩
    · rcases List.mem_cons.mp hy with e | e
      · rw [e]; exact Nat.le_trans h2 (Nat.min_le_right _ _)
      · exact h1 y e
    · rcases h3 with e | ⟨y, hy, e⟩
      · rw [e]
        rcases Nat.le_total x (pieceOf a) with z | z
        · exact .inl (Nat.min_eq_left z)
        · exact .inr ⟨a, List.mem_cons_self .., Nat.min_eq_right z⟩
      · exact .inr ⟨y, List.mem_cons_of_mem _ hy, e⟩
theorem least_le {i j : Nat} (hi : i < D.pieces) (h : D.With i j) : D.leastOf i ≤ j := by
  obtain ⟨e, he, rfl⟩ := (mem_course D hi).mpr h
  exact (foldl_min (D.courseFrom i) i).1 e he
theorem least_with {i : Nat} (hi : i < D.pieces) : D.With i (D.leastOf i) := by
  rcases (foldl_min (D.courseFrom i) i).2.2 with e | ⟨y, hy, e⟩
  · have e' : D.leastOf i = i := e
    rw [e']
    exact with_refl D i
  · have e' : D.leastOf i = pieceOf y := e
    rw [e']
    exact (mem_course D hi).mp ⟨y, hy, rfl⟩
/-- **all pieces of a strand have the same least piece** -/
theorem least_same {i j : Nat} (hi : i < D.pieces) (h : D.With i j) : D.leastOf j = D.leastOf i := by
  have hj := with_lt D hi h
  refine Nat.le_antisymm (least_le D hj ?_) (least_le D hi ?_)
  · exact with_trans D hj (with_symm D hi h) (least_with D hi)
  · exact with_trans D hi h (least_with D hj)
theorem least_lt {i : Nat} (hi : i < D.pieces) : D.leastOf i < D.pieces := with_lt D hi (least_with D hi)
theorem least_least {i : Nat} (hi : i < D.pieces) : D.leastOf (D.leastOf i) = D.leastOf i := least_same D hi (least_with D hi)
end
end Plait

namespace L3
open PySem PySem.Spec PyProof.Rows L2
section
variable {σ : Sig} {H : Hp} {Q : VK} {K : PySem.W.Frag} {g : TG} {tb : TS} {D : Ends}
/-! ### loops over any walk of n turns -/
theorem loop_any {J : It} (n : Nat) (Pv : Nat → Sig → Hp → Prop) (h0 : Pv 0 σ H)
    (hs : ∀ i σ H, i < n → Pv i σ H → J.go i H ∧ ∀ x H', J.yld i H x H' → g x σ H' fun σ2 H2 => tb { D with nx := Pv (i + 1), ct := Pv (i + 1), bk := D.nx } σ2 H2)
    (hd : ∀ σ H, Pv n σ H → J.stop n H ∧ D.nx σ H) : Loop J g tb D σ H := by
  refine ⟨fun i m σ H => m = n - i ∧ i ≤ n ∧ Pv i σ H, ⟨n, by simp, Nat.zero_le _, h0⟩, ?_⟩
  rintro i m σ H ⟨rfl, hi, p⟩
  by_cases hlt : i < n
  · obtain ⟨a, b⟩ := hs i σ H hlt p
    exact .inr ⟨a, Pv (i + 1), fun σ' H' p' => ⟨n - (i + 1), by omega, rfl, hlt, p'⟩, b⟩
  · have e : i = n := by omega
    subst e
    exact .inl (hd σ H p)
/-- enumerate(xs), a list that the loop leaves as it is -/
theorem loop_enum {a : Addr} {xs : List V} (Pv : Nat → Sig → Hp → Prop) (h0 : Pv 0 σ H) (hl : ∀ i σ H, i ≤ xs.length → Pv i σ H → SqL K H a xs)
    (hs : ∀ i x σ H T, xs[i]? = some x → Pv i σ H → H T = none → g (.ref T) σ (upd H T (.tup [.int (i : Nat), x])) fun σ2 H2 => tb { D with nx := Pv (i + 1), ct := Pv (i + 1), bk := D.nx } σ2 H2) (hd : ∀ σ H, Pv xs.length σ H → D.nx σ H) : Loop (Ite K a) g tb D σ H := by
  refine loop_any xs.length Pv h0 (fun i σ H hi p => ?_) fun σ H p => ⟨⟨xs, hl _ _ _ (Nat.le_refl _) p, Nat.le_refl _⟩, hd _ _ p⟩
  have q := hl i σ H (Nat.le_of_lt hi) p
  refine ⟨⟨xs, xs[i], q, List.getElem?_eq_getElem hi⟩, ?_⟩
  rintro x H' ⟨T, y, rfl, hT, rfl, hy⟩
  exact hs i y σ H T (hy _ q) p hT
/-! ### comprehensions -/
variable {wi : TI} {tt : TT} {te : TE} {ws : List Nat}
def Lc (J : It) (g : TG) (tt : TT) (te : TE) (ws : List Nat) (σ : Sig) (D : Addr) (H1 : Hp) (Qd : Hp → Prop) : Prop := ∃ W : Nat → Nat → Hp → Prop, (∃ m, W 0 m (upd H1 D (.lst []))) ∧ ∀ i m H, W i m H →
  (J.stop i H ∧ Qd H) ∨ (J.go i H ∧ ∃ Nx : Hp → Prop, (∀ H', Nx H' → ∃ m', m' < m ∧ W (i + 1) m' H') ∧ ∀ x H', J.yld i H x H' → g x (wipe σ ws) H' fun σ2 H2 => wipe σ2 ws = wipe σ ws ∧ tt σ2 H2 fun b H3 =>
    if b = true then te σ2 H3 fun y H4 => ∃ acc, H4 D = some (.lst acc) ∧ acc.length < sizeLine ∧ Nx (upd H4 D (.lst (acc ++ [y]))) else Nx H3)
theorem R_lc (h : wi σ H fun J H1 => ∀ D, H1 D = none → Lc J g tt te ws σ D H1 fun H2 => Q (.ref D) H2) : tLc wi g tt te ws σ H Q := h
variable {Qd : Addr → Hp → Prop}
theorem R_itE {a : Addr} {xs : List V} (h : SqL K H a xs) (k : Loop (Ite K a) g tb D σ H) : ∃ b ys, [V.ref a] = [.ref b] ∧ SqL K H b ys ∧ Loop (Ite K b) g tb D σ H := ⟨a, xs, rfl, h, k⟩
theorem R_itZ {a b : Addr} {xs ys : List V} (h : SqL K H a xs) (h' : SqL K H b ys) (k : Loop (Itz K a b) g tb D σ H) : ∃ a' b' xs ys, [V.ref a, V.ref b] = [.ref a', .ref b'] ∧ SqL K H a' xs ∧ SqL K H b' ys ∧ Loop (Itz K a' b') g tb D σ H := ⟨a, b, xs, ys, rfl, h, h', k⟩
theorem R_itEc {a : Addr} {xs : List V} (h : SqL K H a xs) (k : ∀ D, H D = none → Lc (Ite K a) g tt te ws σ D H (Qd D)) : ∃ b ys, [V.ref a] = [.ref b] ∧ SqL K H b ys ∧ ∀ D, H D = none → Lc (Ite K b) g tt te ws σ D H (Qd D) := ⟨a, xs, rfl, h, k⟩
theorem R_itZc {a b : Addr} {xs ys : List V} (h : SqL K H a xs) (h' : SqL K H b ys) (k : ∀ D, H D = none → Lc (Itz K a b) g tt te ws σ D H (Qd D)) : ∃ a' b' xs ys, [V.ref a, V.ref b] = [.ref a', .ref b'] ∧ SqL K H a' xs ∧ SqL K H b' ys ∧ ∀ D, H D = none → Lc (Itz K a' b') g tt te ws σ D H (Qd D) := ⟨a, b, xs, ys, rfl, h, h', k⟩
theorem R_itLc {a : Addr} {xs : List V} (h : SqL K H a xs) (k : ∀ D, H D = none → Lc (Itl K a) g tt te ws σ D H (Qd D)) : ∃ b, V.ref a = .ref b ∧ (∃ ys, SqL K H b ys) ∧ ∀ D, H D = none → Lc (Itl K b) g tt te ws σ D H (Qd D) := ⟨a, rfl, ⟨xs, h⟩, k⟩
theorem R_rng1c {j : Int} (k : ∀ D, H D = none → Lc (Itr 0 j.toNat) g tt te ws σ D H (Qd D)) (h0 : -(2 ^ 62) ≤ j) (h1 : j < 2 ^ 62) : ∃ i : Int, ([V.int j] : List V) = [.int i] ∧ -(2 ^ 62) ≤ i ∧ i < 2 ^ 62 ∧ ∀ D, H D = none → Lc (Itr 0 i.toNat) g tt te ws σ D H (Qd D) := ⟨j, rfl, h0, h1, k⟩
theorem R_enum {ta : TA} {R : It → Hp → Prop} (h : ta σ H fun vs H1 => ∃ a xs, vs = [.ref a] ∧ SqL K H1 a xs ∧ R (Ite K a) H1) : iEnum K ta σ H R := h
theorem R_zip {ta : TA} {R : It → Hp → Prop} (h : ta σ H fun vs H1 => ∃ a b xs ys, vs = [.ref a, .ref b] ∧ SqL K H1 a xs ∧ SqL K H1 b ys ∧ R (Itz K a b) H1) : iZip K ta σ H R := h
theorem same_set {H0 H1 : Hp} {l : Addr} {o : HO} (h : Same H0 H1) (n : H0 l = none) : Same H0 (upd H1 l o) := fun b u e => by
  rw [upd_ne (ne_of_none e n)]
  exact h _ _ e
theorem paired_mono {β α : Type} {R S : β → α → Prop} (h : ∀ v x, R v x → S v x) : ∀ {vs : List β} {xs : List α}, Paired R vs xs → Paired S vs xs
  | _, _, .nil => .nil
  | _, _, .cons a b => .cons (h _ _ a) (paired_mono h b)
theorem paired_snoc {β α : Type} {R : β → α → Prop} {v : β} {x : α} (h : R v x) : ∀ {vs : List β} {xs : List α}, Paired R vs xs → Paired R (vs ++ [v]) (xs ++ [x])
  | _, _, .nil => .cons h .nil
  | _, _, .cons a b => .cons a (paired_snoc h b)
theorem paired_len {β α : Type} {R : β → α → Prop} : ∀ {vs : List β} {xs : List α}, Paired R vs xs → vs.length = xs.length
  | _, _, .nil => rfl
  | _, _, .cons _ b => by rw [List.length_cons, List.length_cons, paired_len b]
theorem paired_ints : ∀ {vs : List V} {xs : List Int}, Paired (fun v x => v = .int x) vs xs → vs = xs.map V.int
  | _, _, .nil => rfl
  | _, _, .cons a b => by rw [List.map_cons, ← a, ← paired_ints b]
theorem fm_succ {α : Type} (out : Nat → Option α) (i : Nat) : (List.range (i + 1)).filterMap out = (List.range i).filterMap out ++ (match out i with | some x => [x] | none => []) := by
  rw [List.range_succ, List.filterMap_append, List.filterMap_cons, List.filterMap_nil]
  rcases out i with _ | x <;> rfl
theorem fm_len {α : Type} (out : Nat → Option α) (n : Nat) : ((List.range n).filterMap out).length ≤ n := Nat.le_trans (List.length_filterMap_le _ _) (by rw [List.length_range]; exact Nat.le_refl _)
/-- how a value tells something that no later step changes -/
structure Tells {α : Type} (Rep : Hp → V → α → Prop) : Prop where
  same : ∀ {H H' : Hp} {v : V} {x : α}, Same H H' → Rep H v x → Rep H' v x
  upd : ∀ {H : Hp} {l : Addr} {xs ys : List V} {v : V} {x : α}, H l = some (.lst xs) → Rep H v x → Rep (upd H l (.lst ys)) v x
def RInt : Hp → V → Int → Prop := fun _ v x => v = .int x
theorem tells_int : Tells RInt := ⟨fun _ h => h, fun _ h => h⟩
/-- a comprehension whose n turns give, or leave out, what is told by out -/
theorem lc_rep {α : Type} {J : It} {D : Addr} {H1 : Hp} {Qd : Hp → Prop} (n : Nat) (hn : n ≤ 60000) (out : Nat → Option α) {Rep : Hp → V → α → Prop} (tl : Tells Rep) (hD : H1 D = none)
    (hs : ∀ i H, i < n → Same H1 H → ∀ (S : V → Hp → Prop) (N : Hp → Prop), (∀ v x H4, out i = some x → Same H H4 → Rep H4 v x → S v H4) → (∀ H3, out i = none → Same H H3 → N H3) →
      J.go i H ∧ ∀ x H', J.yld i H x H' → g x (wipe σ ws) H' fun σ2 H2 => wipe σ2 ws = wipe σ ws ∧ tt σ2 H2 fun b H3 => if b = true then te σ2 H3 S else N H3)
    (hst : ∀ H, Same H1 H → J.stop n H)
    (hd : ∀ H vs, Same H1 H → H D = some (.lst vs) → Paired (Rep H) vs ((List.range n).filterMap out) → Qd H) : Lc J g tt te ws σ D H1 Qd := by
  let Pv := fun (i : Nat) (H : Hp) => Same H1 H ∧ ∃ vs, H D = some (.lst vs) ∧ Paired (Rep H) vs ((List.range i).filterMap out)
  refine ⟨fun i m H => m = n - i ∧ i ≤ n ∧ Pv i H, ⟨n, by simp, Nat.zero_le _, same_up hD, [], upd_same, .nil⟩, ?_⟩
  rintro i m H ⟨rfl, hi, s, vs, e, p⟩
  by_cases hlt : i < n
  · obtain ⟨a, b⟩ := hs i H hlt s (fun y H4 => ∃ acc, H4 D = some (.lst acc) ∧ acc.length < sizeLine ∧ Pv (i + 1) (upd H4 D (.lst (acc ++ [y])))) (Pv (i + 1)) (fun v x H4 ho s4 r => by
      refine ⟨vs, s4 _ _ e, ?_, same_set (s.trans s4) hD, vs ++ [v], upd_same, ?_⟩
      · rw [paired_len p]
        exact Nat.lt_of_lt_of_le (Nat.lt_of_le_of_lt (fm_len _ _) hlt) (Nat.le_trans hn (by rw [sizeLine_eq]; decide))
      · rw [fm_succ, ho]
        exact paired_snoc (tl.upd (s4 _ _ e) r) (paired_mono (fun v x z => tl.upd (s4 _ _ e) (tl.same s4 z)) p)) fun H3 ho s3 => by
      refine ⟨s.trans s3, vs, s3 _ _ e, ?_⟩
      rw [fm_succ, ho]
      simp only [List.append_nil]
      exact paired_mono (fun v x => tl.same s3) p
    exact .inr ⟨a, Pv (i + 1), fun H' p' => ⟨n - (i + 1), by omega, rfl, hlt, p'⟩, b⟩
  · have e' : i = n := by omega
    subst e'
    exact .inl ⟨hst _ s, hd _ _ s e p⟩
theorem lc_enumR {α : Type} {a : Addr} {xs : List V} {D : Addr} {H1 : Hp} {Qd : Hp → Prop} (hn : xs.length ≤ 60000) (out : Nat → Option α) {Rep : Hp → V → α → Prop} (tl : Tells Rep) (hD : H1 D = none) (hq : SqL K H1 a xs)
    (hs : ∀ i x H T, xs[i]? = some x → Same H1 H → H T = some (.tup [.int (i : Nat), x]) → ∀ (S : V → Hp → Prop) (N : Hp → Prop), (∀ v x H4, out i = some x → Same H H4 → Rep H4 v x → S v H4) → (∀ H3, out i = none → Same H H3 → N H3) →
      g (.ref T) (wipe σ ws) H fun σ2 H2 => wipe σ2 ws = wipe σ ws ∧ tt σ2 H2 fun b H3 => if b = true then te σ2 H3 S else N H3)
    (hd : ∀ H vs, Same H1 H → H D = some (.lst vs) → Paired (Rep H) vs ((List.range xs.length).filterMap out) → Qd H) : Lc (Ite K a) g tt te ws σ D H1 Qd := by
  refine lc_rep xs.length hn out tl hD (fun i H hi s S N h1 h2 => ?_) (fun H s => ⟨xs, s.seq hq, Nat.le_refl _⟩) hd
  refine ⟨⟨xs, xs[i], s.seq hq, List.getElem?_eq_getElem hi⟩, ?_⟩
  rintro x H' ⟨T, y, rfl, hT, rfl, hy⟩
  exact hs i y _ T (hy _ (s.seq hq)) (s.trans (same_up hT)) upd_same S N (fun v x H4 e s4 r => h1 v x H4 e ((same_up hT).trans s4) r) (fun H3 e s3 => h2 H3 e ((same_up hT).trans s3))
/-! ### targets, dicts, while, tests -/
theorem R_while {c : TT} {tb : TS} {D : Ends} (W : Nat → Sig → Hp → Prop) (h0 : ∃ m, W m σ H)
    (hs : ∀ m σ H, W m σ H → c σ H fun b H1 => if b = true then ∃ N : Sig → Hp → Prop, (∀ σ' H', N σ' H' → ∃ m', m' < m ∧ W m' σ' H') ∧ tb { D with nx := N, ct := N, bk := D.nx } σ H1 else D.nx σ H1) : tWhile c tb D σ H := ⟨W, h0, hs⟩
theorem R_rep {l : Addr} {k : Int} {x : V} (h : H l = some (.lst [x])) (h0 : 0 ≤ k) (h1 : k ≤ 60000) (q : Laid Q (.lst (List.replicate k.toNat x)) H) : rRep (.ref l) (.int k) H Q := by
  refine ⟨l, k, [x], rfl, rfl, h, by omega, by omega, ?_, fun p hp => ?_⟩
  · rw [sizeLine_eq]
    show 1 * k.toNat ≤ _
    omega
  · have e : (List.replicate k.toNat [x]).flatten = List.replicate k.toNat x := by
      induction k.toNat with
      | zero => rfl
      | succ n ih => rw [List.replicate_succ, List.flatten_cons, ih]; rfl
    rw [e]
    exact q p hp
theorem R_tup2 {i j : Nat} {T : Addr} {x y : V} {Q : Sig → Hp → Prop} (h : SqT K H T [x, y]) (q : Q ((σ.set i (some x)).set j (some y)) H) : gTup K 2 (gCons (gName i) (gCons (gName j) gNil)) (.ref T) σ H Q := ⟨T, [x, y], rfl, h, rfl, x, [y], rfl, y, [], rfl, rfl, q⟩
theorem R_yes {Q : Bool → Hp → Prop} (h : Q true H) : tYes σ H Q := h
theorem R_dnew (h : ∀ p, H p = none → Q (.ref p) (upd H p (.dK []))) : tDNewK σ H Q := h
theorem R_dget {td ty : TE} (h : td σ H fun x H1 => ty σ H1 fun y H2 => ∃ a v, x = .ref a ∧ DGet H2 a y (some v) ∧ Q v H2) : tDGet td ty σ H Q := h
theorem R_din {td ty : TE} (h : ty σ H fun y H1 => td σ H1 fun x H2 => ∃ a o, x = .ref a ∧ DGet H2 a y o ∧ Q (.bl o.isSome) H2) : tDIn ty td σ H Q := h
theorem R_dnotin {td ty : TE} (h : ty σ H fun y H1 => td σ H1 fun x H2 => ∃ a o, x = .ref a ∧ DGet H2 a y o ∧ Q (.bl (!o.isSome)) H2) : tDNotIn ty td σ H Q := h
theorem R_dput {td ty tv : TE} {D : Ends} (h : tv σ H fun v H1 => td σ H1 fun x H2 => ty σ H2 fun y H3 => ∃ a H4, x = .ref a ∧ DPut H3 a y v H4 ∧ D.nx σ H4) : sDPut td ty tv D σ H := h
end
end L3

namespace L3
open PySem PySem.Spec PyProof.Rows L2
section
variable {X : Cx}
/-! ### range objects, list(range(n)) -/
def rRng1 : List V → Hp → VK → Prop := fun vs H Q => ∃ j : Int, vs = [V.int j] ∧ ∀ p, H p = none → Q (.ref p) (upd H p (.rng 0 j))
def upTo (n : Nat) : List Int := (List.range n).map fun (i : Nat) => (i : Int)
def rListR : List V → Hp → VK → Prop := fun vs H Q => ∃ (p : Addr) (j : Int), vs = [V.ref p] ∧ H p = some (.rng 0 j) ∧ 0 ≤ j ∧ j ≤ 60000 ∧ Laid Q (.lst ((upTo j.toNat).map V.int)) H
def rLenD : List V → Hp → VK → Prop := fun vs H Q => ∃ (a : Addr) (kvs : List (Key × V)), vs = [V.ref a] ∧ H a = some (.dK kvs) ∧ Q (.int kvs.length) H
end
section
variable {σ : Sig} {H : Hp} {Q : VK} {K : PySem.W.Frag}
theorem R_lenD {p : Addr} {kvs : List (Key × V)} (h : H p = some (.dK kvs)) (q : Q (.int (kvs.length : Int)) H) : rLenD [.ref p] H Q := ⟨p, kvs, rfl, h, q⟩
theorem R_rngO {j : Int} (q : Laid Q (.rng 0 j) H) : rRng1 [.int j] H Q := ⟨j, rfl, q⟩
theorem R_listR {p : Addr} {j : Int} (h : H p = some (.rng 0 j)) (q : Laid Q (.lst ((upTo j.toNat).map V.int)) H) (h0 : 0 ≤ j) (h1 : j ≤ 60000) : rListR [.ref p] H Q := ⟨p, j, rfl, h, h0, h1, q⟩
end
end L3
namespace L3
open PySem PySem.Spec PyProof.Rows L2
section
variable {X : Cx}
/-! ### a pair among pairs -/
end
end L3

set_option maxRecDepth 100000
namespace L3
open PySem PySem.Spec PyProof.Rows L2
/-! ### zip, walked while its last pair is still held -/
abbrev ZB (g : Heap) (Z U V : Addr) (T : Int) (c : Bool) : Prop := g.get? Z = some { cls := .type "zip", dict := none, data := .fields #[rawInt T, .bool c, .bool false, .ref U, .ref V], slots := #[] }
section
variable {prog : Program} {w : World} {A : Around} {E : Value → Shared → Prop} {s : Shared}
/-- the pair handed out last is alive: the pair that zip keeps is not free -/
theorem zb_free {Z U V : Addr} {T : Nat} {c : Bool} {ot : Obj} {Q : Bool → Shared → Prop} (zz : ZB s.heap Z U V T c) (al : s.heap.get? T = some ot)
    (k : ∀ g, ZB g Z U V T true → Heap.ExtBut Z s.heap g → g.objs.size = s.heap.objs.size → Q false { s with heap := g }) : wpAny (model prog w) A (Builtin.SmallTypes.ownedTupleIsFree (.ref Z)) Q E s := by
  unfold Builtin.SmallTypes.ownedTupleIsFree
  refine wpAny_bind (wpAny_field zz rfl (x := rawInt T) (by rfl) ?_)
  show wpAny _ _ (loadIfAlive T >>= _) _ _ _
  refine wpAny_bind (PySem.W.kdx_alive (o := ot) al ?_)
  simp only [Option.isNone_some, Bool.false_eq_true, if_false]
  refine wpAny_bind (wpAny_field zz rfl (x := .bool c) (by rfl) ?_)
  cases c with
  | true =>
    have e : ((Value.bool true != Value.bool true)) = false := by decide
    simp only [e, Bool.false_eq_true, if_false]
    refine wpAny_pure ?_
    exact k s.heap zz (fun _ _ _ e => e) rfl
  | false =>
    have e : ((Value.bool false != Value.bool true)) = true := by decide
    simp only [e, if_true]
    refine wpAny_bind (wpAny_setField_rec zz (by simp) fun g z2 sb => wpAny_pure ?_)
    exact k g z2 sb.extBut sb.1
/-- the next pair, while the one before is held -/
theorem zb_item {Z U V p q a b : Addr} {m n : Nat} {us vs : Array Value} {x y : Value} {T : Nat} {c : Bool} {ot : Obj} {Q : Value → Shared → Prop} (ap : ZipApart Z U V p q a b)
    (zz : ZB s.heap Z U V T c) (al : s.heap.get? T = some ot) (zu : IsPair s.heap U (.ref p) (.ref q)) (ip : s.heap.IsListIter p a m) (iq : s.heap.IsListIter q b n) (la : s.heap.IsList a us) (lb : s.heap.IsList b vs) (ex : us[m]? = some x) (ey : vs[n]? = some y)
    (k : ∀ g, ZB g Z U V T true → g.IsListIter p a (m + 1) → g.IsListIter q b (n + 1) → IsPair g s.heap.objs.size x y → g.objs.size = s.heap.objs.size + 1 →
      (∀ d o, d ≠ Z → d ≠ p → d ≠ q → s.heap.get? d = some o → g.get? d = some o) → Q (.ref s.heap.objs.size) { s with heap := g }) :
    wpAny (model prog w) A (Builtin.«zip.__next__» ⟨[.ref Z], []⟩) (fun fin s' => ∃ v, fin = .done (.ret v) ∧ Q v s') E s := by
  show wpAny _ _ (field (.ref Z) 2 >>= _) _ _ _
  refine wpAny_bind (wpAny_field zz rfl (x := .bool false) (by rfl) ?_)
  show wpAny _ _ (field (.ref Z) 3 >>= _) _ _ _
  refine wpAny_bind (wpAny_field zz rfl (x := .ref U) (by rfl) ?_)
  refine wpAny_bind (wpAny_seqItems zu (by rfl) ?_)
  show wpAny _ _ (Builtin.SmallTypes.ownedTupleIsFree (.ref Z) >>= _) _ _ _
  refine wpAny_bind (zb_free zz al fun g1 z1 x1 c1 => ?_)
  simp only [Bool.false_eq_true, if_false]
  refine wpAny_bind ?_
  simp only [← Array.forIn_toList, List.forIn_cons, List.forIn_nil]
  refine wpAny_bind (wpAny_bind (wpAny_holding ?_))
  show wpAny _ _ (Builtin.SmallTypes.nextOf (.ref p) >>= _) _ _ _
  refine wpAny_bind (wpAny_nextOf_list_item (ip.extBut x1 ap.i1z) (la.extBut x1 ap.l1z) ex fun g2 i2 sb2 => wpAny_pure ?_)
  refine wpAny_pure ?_
  refine wpAny_bind (wpAny_bind (wpAny_holding ?_))
  show wpAny _ _ (Builtin.SmallTypes.nextOf (.ref q) >>= _) _ _ _
  refine wpAny_bind (wpAny_nextOf_list_item ((iq.extBut x1 ap.i2z).extBut sb2.extBut ap.i12.symm) ((lb.extBut x1 ap.l2z).extBut sb2.extBut ap.l2i1) ey fun g3 i3 sb3 => wpAny_pure ?_)
  refine wpAny_pure (wpAny_pure ?_)
  refine wpAny_bind (wpAny_newTuple ?_ (by show 2 ≤ sizeLine; rw [sizeLine_eq]; decide))
  have sz : g3.objs.size = s.heap.objs.size := by rw [sb3.1, sb2.1, c1]
  refine wpAny_pure ⟨_, rfl, ?_⟩
  show Q (.ref g3.objs.size) _
  have up : ∀ d o, g3.get? d = some o → (g3.push { cls := .type "tuple", data := .seq #[x, y] }).get? d = some o := fun d o e => Heap.get?_push_of_some _ e
  have pu : IsPair (g3.push { cls := .type "tuple", data := .seq #[x, y] }) g3.objs.size x y := Heap.get?_push_size _ rfl
  have sp : (g3.push { cls := .type "tuple", data := .seq #[x, y] }).objs.size = s.heap.objs.size + 1 := by rw [Heap.size_push, sz]
  rw [sz] at pu
  rw [sz]
  refine k _ (up _ _ (sb3.extBut _ _ ap.i2z.symm (sb2.extBut _ _ ap.i1z.symm z1))) ((i2.extBut sb3.extBut ap.i12).at fun o e => up _ _ e) (i3.at fun o e => up _ _ e) pu sp fun d o d1 d2 d3 e => ?_
  exact up _ _ (sb3.extBut _ _ d3 (sb2.extBut _ _ d2 (x1 _ _ d1 e)))
/-- no pair more, while the last one is held -/
theorem zb_end {Z U V p q a b : Addr} {m n : Nat} {us vs : Array Value} {T : Nat} {c : Bool} {ot : Obj} {Q : Fin → Shared → Prop} (hh : A.handled = none) (ap : ZipApart Z U V p q a b)
    (zz : ZB s.heap Z U V T c) (al : s.heap.get? T = some ot) (zu : IsPair s.heap U (.ref p) (.ref q)) (ip : s.heap.IsListIter p a m) (iq : s.heap.IsListIter q b n) (la : s.heap.IsList a us) (lb : s.heap.IsList b vs) (en : us[m]? = none ∨ vs[n]? = none)
    (k : ∀ g e, (∀ d o, d ≠ Z → d ≠ p → d ≠ q → s.heap.get? d = some o → g.get? d = some o) → (∃ o, g.get? e = some o ∧ o.cls = .type "StopIteration") → E (.ref e) { s with heap := g }) :
    wpAny (model prog w) A (Builtin.«zip.__next__» ⟨[.ref Z], []⟩) Q E s := by
  show wpAny _ _ (field (.ref Z) 2 >>= _) _ _ _
  refine wpAny_bind (wpAny_field zz rfl (x := .bool false) (by rfl) ?_)
  show wpAny _ _ (field (.ref Z) 3 >>= _) _ _ _
  refine wpAny_bind (wpAny_field zz rfl (x := .ref U) (by rfl) ?_)
  refine wpAny_bind (wpAny_seqItems zu (by rfl) ?_)
  show wpAny _ _ (Builtin.SmallTypes.ownedTupleIsFree (.ref Z) >>= _) _ _ _
  refine wpAny_bind (zb_free zz al fun g1 z1 x1 c1 => ?_)
  simp only [Bool.false_eq_true, if_false]
  refine wpAny_bind ?_
  simp only [← Array.forIn_toList, List.forIn_cons, List.forIn_nil]
  refine wpAny_bind (wpAny_bind (wpAny_holding ?_))
  show wpAny _ _ (Builtin.SmallTypes.nextOf (.ref p) >>= _) _ _ _
  cases ex : us[m]? with
  | none =>
    refine wpAny_bind (wpAny_nextOf_list_end hh (ip.extBut x1 ap.i1z) (la.extBut x1 ap.l1z) ex fun g2 e sb2 st => ?_)
    exact k g2 e (fun d o d1 d2 d3 h => sb2 _ _ d2 (x1 _ _ d1 h)) st
  | some x =>
    have ey : vs[n]? = none := by
      rcases en with h | h
      · rw [ex] at h; cases h
      · exact h
    refine wpAny_bind (wpAny_nextOf_list_item (ip.extBut x1 ap.i1z) (la.extBut x1 ap.l1z) ex fun g2 i2 sb2 => wpAny_pure ?_)
    refine wpAny_pure ?_
    refine wpAny_bind (wpAny_bind (wpAny_holding ?_))
    show wpAny _ _ (Builtin.SmallTypes.nextOf (.ref q) >>= _) _ _ _
    refine wpAny_bind (wpAny_nextOf_list_end hh ((iq.extBut x1 ap.i2z).extBut sb2.extBut ap.i12.symm) ((lb.extBut x1 ap.l2z).extBut sb2.extBut ap.l2i1) ey fun g3 e sb3 st => ?_)
    exact k g3 e (fun d o d1 d2 d3 h => sb3 _ _ d3 (sb2.extBut _ _ d2 (x1 _ _ d1 h))) st
/-- zip's state between two pairs: fresh, or with the last pair held -/
def ZSt (g : Heap) (Z U V : Addr) : Prop := IsZip g Z U V .none ∨ ∃ (T : Nat) (c : Bool) (ot : Obj), ZB g Z U V T c ∧ g.get? T = some ot
theorem zn_item {Z U V p q a b : Addr} {m n : Nat} {us vs : Array Value} {x y : Value} {Q : Option Value → Shared → Prop} (ap : ZipApart Z U V p q a b)
    (zz : ZSt s.heap Z U V) (zu : IsPair s.heap U (.ref p) (.ref q)) (zv : ∃ h t, IsPair s.heap V h t) (ip : s.heap.IsListIter p a m) (iq : s.heap.IsListIter q b n) (la : s.heap.IsList a us) (lb : s.heap.IsList b vs) (ex : us[m]? = some x) (ey : vs[n]? = some y)
    (k : ∀ g, ZSt g Z U V → (∃ h t, IsPair g V h t) → g.IsListIter p a (m + 1) → g.IsListIter q b (n + 1) → IsPair g s.heap.objs.size x y →
      (∀ d o, d ≠ Z → d ≠ V → d ≠ p → d ≠ q → s.heap.get? d = some o → g.get? d = some o) → Q (some (.ref s.heap.objs.size)) { s with heap := g }) :
    wpAny (model prog w) A (pyNext (.ref Z)) Q E s := by
  obtain ⟨h0, t0, zv⟩ := zv
  rcases zz with zz | ⟨T, c, ot, zz, al⟩
  · refine wpAny_pyNext_zip_item ap zz zu zv ip iq la lb ex ey fun g a1 a2 a3 a4 a5 a6 a7 => ?_
    exact k g (.inr ⟨_, false, _, a1, a5⟩) ⟨_, _, a2⟩ a3 a4 a5 a7
  · have hT : s.TypeIs (.ref Z) "zip" := ⟨_, zz, rfl⟩
    unfold pyNext
    refine wpAny_bind (wpAny_attempt (wpAny_callSpecial?_slot (name := Str.ofString "__next__") hT PySem.F.slot_zip_next (wpAny_call_entry PySem.F.slot_zip_next hT PySem.F.entry_zip_next
      (zb_item ap zz al zu ip iq la lb ex ey fun g a1 a3 a4 a5 a6 a7 => wpAny_pure ?_) (PySem.F.args_zip_next_1 _))))
    have alT : T ≠ Z ∧ T ≠ p ∧ T ≠ q ∨ True := .inr trivial
    refine k g ?_ ⟨h0, t0, a7 _ _ ap.TOz ap.TOi1 ap.TOi2 zv⟩ a3 a4 a5 fun d o d1 _ d3 d4 e => a7 d o d1 d3 d4 e
    refine .inr ⟨T, true, ?_⟩
    by_cases e1 : T = Z
    · exact ⟨_, a1, by rw [e1]; exact a1⟩
    by_cases e2 : T = p
    · obtain ⟨o, ho, _⟩ := a3
      exact ⟨o, a1, by rw [e2]; exact ho⟩
    by_cases e3 : T = q
    · obtain ⟨o, ho, _⟩ := a4
      exact ⟨o, a1, by rw [e3]; exact ho⟩
    exact ⟨ot, a1, a7 _ _ e1 e2 e3 al⟩
theorem zn_end {Z U V p q a b : Addr} {m n : Nat} {us vs : Array Value} {Q : Option Value → Shared → Prop} (hh : A.handled = none) (ap : ZipApart Z U V p q a b)
    (zz : ZSt s.heap Z U V) (zu : IsPair s.heap U (.ref p) (.ref q)) (zv : ∃ h t, IsPair s.heap V h t) (ip : s.heap.IsListIter p a m) (iq : s.heap.IsListIter q b n) (la : s.heap.IsList a us) (lb : s.heap.IsList b vs) (en : us[m]? = none ∨ vs[n]? = none)
    (k : ∀ g, (∀ d o, d ≠ Z → d ≠ V → d ≠ p → d ≠ q → s.heap.get? d = some o → g.get? d = some o) → Q none { s with heap := g }) : wpAny (model prog w) A (pyNext (.ref Z)) Q E s := by
  obtain ⟨h0, t0, zv⟩ := zv
  rcases zz with zz | ⟨T, c, ot, zz, al⟩
  · exact wpAny_pyNext_zip_end hh ap zz zu zv ip iq la lb en fun g a7 => k g a7
  · have hT : s.TypeIs (.ref Z) "zip" := ⟨_, zz, rfl⟩
    unfold pyNext
    refine wpAny_bind (wpAny_attempt (wpAny_callSpecial?_slot (name := Str.ofString "__next__") hT PySem.F.slot_zip_next (wpAny_call_entry PySem.F.slot_zip_next hT PySem.F.entry_zip_next
      (zb_end hh ap zz al zu ip iq la lb en fun g e a7 st => ?_) (PySem.F.args_zip_next_1 _))))
    obtain ⟨o, ho, hc⟩ := st
    refine wpAny_bind (wpAny_isInstance (T := "StopIteration") (b := true) ⟨o, ho, hc⟩ isSubtype_stop (wpAny_pure ?_))
    exact k _ fun d o d1 _ d3 d4 e => a7 d o d1 d3 d4 e
end
end L3
namespace L3
open PySem PySem.Spec PyProof.Rows L2
/-! ### a zip has no attribute keys -/
theorem zip_no_keys : typeLookup (.type "zip") "keys" = pure none := am_miss_of_fast (by first | decide +kernel | rfl)
theorem zip_no_getattr : typeLookup (.type "zip") "__getattr__" = pure none := am_miss_of_fast (by first | decide +kernel | rfl)
theorem zip_getattribute : entryFor table "zip.__getattribute__" = some Builtin.«object.__getattribute__» :=
  entryFor_alias (id' := "object.__getattribute__") (by kernel_rfl) (by decide +kernel) (by decide +kernel) (by kernel_rfl)
theorem zip_miss (Z : Addr) (fs : Array Value) (ss : Array (Option Value)) (nm : Str) (tk : Tok) (miss : typeLookup (.type "zip") nm = pure none) (plain : (["__module__", "__name__", "__qualname__", "__doc__", "__annotations__"] : List Str).contains nm = false) (fits : nm.length + 100 ≤ sizeLine) :
    Meets (Builtin.«object.__getattribute__» ⟨[.ref Z, .str nm tk], []⟩) (fun B R r => r.heap.get? Z = some { cls := .type "zip", dict := none, data := .fields fs, slots := ss } ∧ raisesAttr (.ref Z) nm B R r) :=
  Meets.of_wp fun prog w B R r hr => by
    obtain ⟨hp, gg, dd, tt, oo⟩ := r
    obtain ⟨at_, hr⟩ := hr
    have ty : (⟨hp, gg, dd, tt, oo⟩ : Shared).TypeIs (.ref Z) "zip" := ⟨_, at_, rfl⟩
    unfold Builtin.«object.__getattribute__»
    repeat (any_goals (first | assumption | wp_step))
    simp only [plain, Bool.false_eq_true, if_false]
    repeat (any_goals (first | assumption | wp_step))
    exact wpAny_raiseAttrError hr.1 hr.2 (attrMsg_fits (by decide +kernel) fits)
section
variable {prog : Program} {w : World} {A : Around} {E : Value → Shared → Prop}
theorem miss_zip {s : Shared} {Z : Addr} {fs : Array Value} {ss : Array (Option Value)} {Q : Option Value → Shared → Prop} (at_ : s.heap.get? Z = some { cls := .type "zip", dict := none, data := .fields fs, slots := ss }) (calm : A.handled = none)
    (k : ∀ g tk, (∀ d o, s.heap.get? d = some o → g.get? d = some o) → Q none { s with heap := g, toks := tk }) : wpAny (model prog w) A (getAttr? (.ref Z) "keys") Q E s := by
  obtain ⟨hp, gg, dd, tt, oo⟩ := s
  have ty : ∀ tk', (⟨hp, gg, dd, tk', oo⟩ : Shared).TypeIs (.ref Z) "zip" := fun _ => ⟨_, at_, rfl⟩
  have miss := zip_no_keys
  have plain : (["__module__", "__name__", "__qualname__", "__doc__", "__annotations__"] : List Str).contains "keys" = false := by decide +kernel
  have fits : ("keys" : Str).length + 100 ≤ sizeLine := by first | size_fits | decide +kernel
  have g1 := sub_AttributeError
  have g3 := PySem.F.slot_zip_getattribute.lookup
  have g4 := PySem.F.slot_zip_getattribute.bind (.ref Z)
  have g5 := zip_no_getattr
  unfold getAttr? getAttrBy? getAttrBy
  repeat (any_goals (first | assumption | exact ty _ | ((with_reducible show wpAny _ _ (call (Value.builtin "zip.__getattribute__") _ _) _ _ _); refine call_meets PySem.F.slot_zip_getattribute (ty _) zip_getattribute (PySem.F.args_zip_getattribute_2 _ _) (zip_miss Z fs ss "keys" _ miss plain fits) ⟨at_, calm, fun g' tk' e' new => ?_⟩) | wp_step))
  obtain ⟨t', u', there⟩ := new.there
  show wpAny _ _ (getattributeRaised _ _ _ _ _ _ _) _ _ _
  unfold getattributeRaised
  repeat (any_goals (first | assumption | wp_step))
  all_goals first | exact k _ _ new.keeps | (dsimp only; repeat (any_goals (first | assumption | exact k _ _ new.keeps | wp_step)))
end
end L3

set_option maxRecDepth 100000
namespace L3
open PySem PySem.Spec PyProof.Rows L2
section
variable {prog : Program} {w : World} {A : Around} {E : Value → Shared → Prop}
/-! ### dict(zip(xs, ys)) -/
/-- the pairs, one behind another, into the dict at S -/
theorem zd_loop {R : Result → Shared → Prop} {S Z U V p q a b : Addr} {us vs : Array Value} {res : Value} (hh : A.handled = none) (ap : ZipApart Z U V p q a b) (apart : S ≠ Z ∧ S ≠ U ∧ S ≠ V ∧ S ≠ p ∧ S ≠ q ∧ S ≠ a ∧ S ≠ b) :
    ∀ (rest : List (Key × Value)) (i : Nat) (acc : List (Key × Value)) (ix : Int) (t : Tok) (s : Shared), us.size = i + rest.length → vs.size = i + rest.length → acc.length + rest.length ≤ sizeLine →
      (∀ (j : Nat) (e : Key × Value), rest[j]? = some e → ∃ u, us[i + j]? = some u ∧ vs[i + j]? = some e.2 ∧ keyIs e.1 u = true) →
      ZSt s.heap Z U V → IsPair s.heap U (.ref p) (.ref q) → (∃ x y, IsPair s.heap V x y) → s.heap.IsListIter p a i → s.heap.IsListIter q b i → s.heap.IsList a us → s.heap.IsList b vs → s.heap.DictOf (mixKind prog w) S acc →
      (∀ g tk, g.DictOf (mixKind prog w) S (merged acc rest) → (∀ d o, d ≠ S → d ≠ Z → d ≠ V → d ≠ p → d ≠ q → s.heap.get? d = some o → g.get? d = some o) → R (.ok (.ret res)) { s with heap := g, toks := tk }) →
      codeAny (model prog w) A (.builtin "dict.update.loop" ⟨[.ref S, .ref Z, .int ix t, res], []⟩) R s
  | [], i, acc, ix, t, s, zu, zv, ln, ht, z1, z2, z3, ip, iq, la, lb, dm, k => by
    refine codeAny_builtin ud_entry ?_
    rw [Around.under_plainId ud_plain _]
    show wpAny _ A.in1 (pyNext (.ref Z) >>= _) _ _ s
    refine wpAny_bind (zn_end (A := A.in1) hh ap z1 z2 z3 ip iq la lb (.inl (Array.getElem?_eq_none (by simpa using Nat.le_of_eq zu))) fun g kp => ?_)
    show wpAny _ A.in1 (Builtin.Dict.addKeywords S [] >>= _) _ _ _
    refine wpAny_bind (wpAny_pure (wpAny_pure ?_))
    exact k g s.toks (dm.at fun o e => kp _ _ apart.1 apart.2.2.1 apart.2.2.2.1 apart.2.2.2.2.1 e) fun d o _ d1 d2 d3 d4 e => kp d o d1 d2 d3 d4 e
  | e :: rest, i, acc, ix, t, s, zu, zv, ln, ht, z1, z2, z3, ip, iq, la, lb, dm, k => by
    obtain ⟨u, eu, ev, ek⟩ := ht 0 e rfl
    rw [List.length_cons] at zu zv ln
    refine codeAny_builtin ud_entry ?_
    rw [Around.under_plainId ud_plain _]
    show wpAny _ A.in1 (pyNext (.ref Z) >>= _) _ _ s
    refine wpAny_bind (zn_item (A := A.in1) ap z1 z2 z3 ip iq la lb (by simpa using eu) (by simpa using ev) fun g a1 a2 a3 a4 a5 kp => ?_)
    have dm1 : g.DictOf (mixKind prog w) S acc := dm.at fun o x => kp _ _ apart.1 apart.2.2.1 apart.2.2.2.1 apart.2.2.2.2.1 x
    show wpAny _ A.in1 (holding [Value.ref s.heap.objs.size] _ >>= _) _ _ _
    refine wpAny_bind (wpAny_holding ?_)
    refine wpAny_bind (wpAny_tryCatch ?_)
    unfold Builtin.Dict.pairItems
    refine wpAny_bind (wpAny_typeOf (T := "tuple") ⟨_, a5, rfl⟩ ?_)
    rw [if_pos (by first | decide | rfl | simp)]
    refine wpAny_bind (wpAny_seqItems a5 rfl (wpAny_pure ?_))
    show wpAny _ A.in1 (holding [u, e.2] (dictSet S u e.2)) _ _ _
    refine wpAny_holding (wpAny_dictSet_pairs (knd := mixKind prog w) (k := e.1) ek dm1 (fun g2 dm2 sb => ?_) (by omega))
    have ex := sb.extBut
    have gt : ∀ {d : Addr} {o : Obj}, d ≠ S → g.get? d = some o → g2.get? d = some o := fun h x => ex _ _ h x
    refine wpAny_pure ⟨plainId_quiet ud_plain _, zd_loop (us := us) (vs := vs) hh ap apart rest (i + 1) (stored acc e.1 e.2) (ix + 1) 0 _ (by omega) (by omega) ?_ (fun j e' x => ?_) ?_ ?_ ?_ ?_ ?_ ?_ ?_ dm2 fun g3 tk dm3 kp3 => ?_⟩
    · have := stored_length_le acc e.1 e.2
      omega
    · obtain ⟨u', b1, b2, b3⟩ := ht (j + 1) e' (by simpa using x)
      exact ⟨u', by rw [show i + 1 + j = i + (j + 1) by omega]; exact b1, by rw [show i + 1 + j = i + (j + 1) by omega]; exact b2, b3⟩
    · rcases a1 with a1 | ⟨T, c, ot, a1, al⟩
      · exact .inl (gt (Ne.symm apart.1) a1)
      · by_cases hT : T = S
        · obtain ⟨oS, _, _, hS, _⟩ := id dm2
          exact .inr ⟨T, c, oS, gt (Ne.symm apart.1) a1, by rw [hT]; exact hS⟩
        · exact .inr ⟨T, c, ot, gt (Ne.symm apart.1) a1, gt hT al⟩
    · exact gt (Ne.symm apart.2.1) (kp _ _ ap.TIz ap.TITO ap.TIi1 ap.TIi2 z2)
    · obtain ⟨x, y, a2⟩ := a2
      exact ⟨x, y, gt (Ne.symm apart.2.2.1) a2⟩
    · exact a3.at fun o x => gt (Ne.symm apart.2.2.2.1) x
    · exact a4.at fun o x => gt (Ne.symm apart.2.2.2.2.1) x
    · exact (la.at fun o x => kp _ _ ap.l1z ap.l1TO ap.l1i1 ap.l1i2 x).at fun o x => gt (Ne.symm apart.2.2.2.2.2.1) x
    · exact (lb.at fun o x => kp _ _ ap.l2z ap.l2TO ap.l2i1 ap.l2i2 x).at fun o x => gt (Ne.symm apart.2.2.2.2.2.2) x
    · exact k g3 tk dm3 fun d o d0 d1 d2 d3 d4 x => kp3 d o d0 d1 d2 d3 d4 (gt d0 (kp d o d1 d2 d3 d4 x))
/-- dict(z) of a zip just made -/
theorem call_dict_zip {s : Shared} {Z U V p q a b : Addr} {us vs : Array Value} {prs : List (Key × Value)} {Q : Value → Shared → Prop} (hh : A.handled = none) (ap : ZipApart Z U V p q a b)
    (z1 : IsZip s.heap Z U V .none) (z2 : IsPair s.heap U (.ref p) (.ref q)) (z3 : ∃ x y, IsPair s.heap V x y) (ip : s.heap.IsListIter p a 0) (iq : s.heap.IsListIter q b 0) (la : s.heap.IsList a us) (lb : s.heap.IsList b vs) (zu : us.size = prs.length) (zv : vs.size = prs.length) (ln : prs.length ≤ sizeLine)
    (ht : ∀ (j : Nat) (e : Key × Value), prs[j]? = some e → ∃ u, us[j]? = some u ∧ vs[j]? = some e.2 ∧ keyIs e.1 u = true)
    (k : ∀ g tk, g.DictOf (mixKind prog w) s.heap.objs.size (merged [] prs) → (∀ d o, d ≠ Z → d ≠ V → d ≠ p → d ≠ q → s.heap.get? d = some o → g.get? d = some o) → Q (.ref s.heap.objs.size) { s with heap := g, toks := tk }) :
    wpAny (model prog w) A (call (.type "dict") [.ref Z]) Q E s := by
  refine callType_codes (Q₁ := fun obj s₁ => obj = .ref s.heap.objs.size ∧ s₁ = { s with heap := s.heap.push { cls := .type "dict", data := .dict #[] } }) PySem.F.kt_called_dict (PySem.F.kt_typeCall_dict_1 _) PySem.F.entry_dict_init (kt_code_dict_new _ ⟨rfl, rfl⟩) ?_
  rintro obj s₁ ⟨rfl, rfl⟩
  have new : (s.heap.push { cls := .type "dict", data := .dict #[] }).DictOf (mixKind prog w) s.heap.objs.size [] := Heap.DictOf.new s.heap
  have k0 : ∀ d o, s.heap.get? d = some o → (s.heap.push { cls := .type "dict", data := .dict #[] }).get? d = some o := fun d o e => Heap.get?_push_of_some _ e
  refine ⟨new.typeIs, PySem.F.args_dict_init_2 _ _, ?_⟩
  unfold Builtin.«dict.__init__»
  refine wpAny_bind ?_
  unfold Builtin.Dict.selfAndRest
  refine wpAny_bind (wpAny_notOrdered_dict new.typeIs ?_)
  show wpAny _ _ (pure (s.heap.objs.size, [Value.ref Z])) _ _ _
  refine wpAny_pure ?_
  show wpAny _ _ (Builtin.Dict.updateFrom "dict.__init__" s.heap.objs.size (.ref Z) [] .none) _ _ _
  unfold Builtin.Dict.updateFrom
  refine wpAny_bind (wpAny_typeOf (T := "zip") ⟨_, k0 _ _ z1, rfl⟩ ?_)
  rw [if_pos (by first | decide | rfl | simp)]
  refine wpAny_bind (miss_zip (k0 _ _ z1) hh fun g1 tk1 k1 => ?_)
  rw [if_pos (show (none : Option Value).isNone = true from rfl)]
  refine wpAny_bind (wpAny_rule ?_)
  have up : ∀ {d o}, s.heap.get? d = some o → g1.get? d = some o := fun e => k1 _ _ (k0 _ _ e)
  refine wpAny_bind (wpAny_pyIter_zip (up z1) ?_)
  have ne : ∀ {d o}, s.heap.get? d = some o → s.heap.objs.size ≠ d := fun e => Nat.ne_of_gt (Heap.lt_size e)
  obtain ⟨x0, y0, z3'⟩ := id z3
  have apart : s.heap.objs.size ≠ Z ∧ s.heap.objs.size ≠ U ∧ s.heap.objs.size ≠ V ∧ s.heap.objs.size ≠ p ∧ s.heap.objs.size ≠ q ∧ s.heap.objs.size ≠ a ∧ s.heap.objs.size ≠ b :=
    ⟨ne z1, ne z2, ne z3', by obtain ⟨_, e, _⟩ := ip; exact ne e, by obtain ⟨_, e, _⟩ := iq; exact ne e, by obtain ⟨_, e, _⟩ := la; exact ne e, by obtain ⟨_, e, _⟩ := lb; exact ne e⟩
  have key := zd_loop (prog := prog) (w := w) (A := A.in1) (R := wants (fun r s₂ => r = .none ∧ Q (.ref s.heap.objs.size) s₂) E) (res := Value.none) hh ap apart prs 0 [] 0 0 { s with heap := g1, toks := tk1 } (by rw [zu, Nat.zero_add]) (by rw [zv, Nat.zero_add]) (by rw [List.length_nil, Nat.zero_add]; exact ln)
    (fun j e x => by rw [Nat.zero_add]; exact ht j e x) (.inl (up z1)) (up z2) ⟨x0, y0, up z3'⟩ (ip.at fun o e => up e) (iq.at fun o e => up e) (la.at fun o e => up e) (lb.at fun o e => up e) (new.at fun o e => k1 _ _ e)
    (fun g tk dm kp => ⟨rfl, k g tk dm fun d o d1 d2 d3 d4 e => kp d o (Ne.symm (ne e)) d1 d2 d3 d4 (up e)⟩)
  first
    | exact wpAny_pure ⟨plainId_quiet ud_plain _, key⟩
    | exact wpAny_bind (wpAny_pure (wpAny_pure ⟨plainId_quiet ud_plain _, key⟩))
end
section
variable {X : Cx}
def tDZ (K : PySem.W.Frag) (ta : TA) : TE := fun σ H Q => ta σ H fun vs H1 => ∃ (a b : Addr) (kvs : List (Key × V)), vs = [V.ref a, V.ref b] ∧ SqL K H1 a (kvs.map fun e => kV e.1) ∧ SqL K H1 b (kvs.map fun e => e.2) ∧ Laid Q (.dK (mergeK [] kvs)) H1
theorem zip_prs {P : Program} {w : World} : ∀ {kvs : List (Key × V)} {us vs : List Value}, Vals (kvs.map fun e => kV e.1) us → Vals (kvs.map fun e => e.2) vs → ∃ prs : List (Key × Value), KV kvs prs ∧ us.length = prs.length ∧ vs.length = prs.length ∧ ∀ (j : Nat) (e : Key × Value), prs[j]? = some e → ∃ u, us[j]? = some u ∧ vs[j]? = some e.2 ∧ keyIs e.1 u = true
  | [], _, _, r1, r2 => by
    rw [List.map_nil] at r1 r2
    cases r1
    cases r2
    exact ⟨[], .nil, rfl, rfl, fun j e h => by simp at h⟩
  | kv :: kvs, _, _, r1, r2 => by
    rw [List.map_cons] at r1 r2
    cases r1 with
    | cons h1 t1 =>
      cases r2 with
      | cons h2 t2 =>
        rename_i u us v vs
        obtain ⟨prs, k, l1, l2, hp⟩ := zip_prs (P := P) (w := w) t1 t2
        refine ⟨(kv.1, v) :: prs, .cons ⟨rfl, h2⟩ k, by rw [List.length_cons, List.length_cons, l1], by rw [List.length_cons, List.length_cons, l2], fun j e x => ?_⟩
        cases j with
        | zero =>
          cases x
          exact ⟨u, rfl, rfl, kV_is (P := P) (w := w) h1⟩
        | succ j =>
          obtain ⟨u', b1, b2, b3⟩ := hp j e (by simpa using x)
          exact ⟨u', by simpa using b1, by simpa using b2, b3⟩
theorem boot_dictT : bootBuiltins "dict" = some (.type "dict") := by decide +kernel
theorem pe_dictZip {e e2 : Expr} {ta : TA} {p p2 pos pos2 : Pos} (hcalm : X.calm = true) (hgd : Gl X "dict") (hmd : X.mg "dict" = none) (hgz : Gl X "zip") (hmz : X.mg "zip" = none) (ha : PA X [e, e2] ta)
    (hs : starEach [e, e2] X.env = (false, eval e X.env) :: starEach [e2] X.env := by rfl) (hpl : (backTo pos2 (starEach [e2] X.env)).any (·.1) = false := by rfl)
    (he : starEach [.Call (.Name "zip" p2) [e, e2] [] pos2] X.env = (false, eval (.Call (.Name "zip" p2) [e, e2] [] pos2) X.env) :: starEach [] X.env := by rfl) :
    PE X (.Call (.Name "dict" p) [.Call (.Name "zip" p2) [e, e2] [] pos2] [] pos) (tDZ X.K ta) := by
  intro pins s σ H Q I h
  refine wpAny_Call_Name_kw (ld_blt I hgd hmd boot_dictT ?_)
  refine PyProof.Rows.callWith_type1 ?_ he rfl
  rw [he]
  show wpAny _ _ (spliced ((false, eval (.Call (.Name "zip" p2) [e, e2] [] pos2) X.env) :: backTo pos (starEach [] X.env))) _ _ s
  refine Calls.spliced_cons ?_
  refine wpAny_Call_Name_kw (ld_blt I hgz hmz boot_zip5 ?_)
  refine PyProof.Rows.callWith_type1 (thn (ha pos2 pins s σ H _ I h) fun us s1 ⟨vs, H1, I1, r1, q1⟩ => ?_) hs hpl
  obtain ⟨a, b, kvs, ex, hqa, hqb, q⟩ := q1
  subst ex
  cases r1 with
  | cons r rr =>
    cases rr with
    | cons r' rr =>
      cases rr
      cases r
      cases r'
      obtain ⟨ia, rv, pa, za⟩ := I1.list hqa
      obtain ⟨ib, rv2, pb, zb⟩ := I1.list hqb
      have lta : a < s1.heap.objs.size := pa.lt
      have ltb : b < s1.heap.objs.size := pb.lt
      obtain ⟨prs, kv, l1, l2, hp⟩ := zip_prs (P := X.prog) (w := X.w) rv rv2
      refine call_zip_2 pa.isList pb.isList fun g gz gu gv g1 g2 gs gk => ?_
      refine Calls.spliced_nil ?_
      have ln : prs.length ≤ sizeLine := by
        have := rv.length
        omega
      refine call_dict_zip (prs := prs) (I1.ok.hd hcalm) (PySem.W.ktu_apart s1.heap.objs.size a b lta ltb) gz gu ⟨_, _, gv⟩ g1 g2 (pa.isList.at fun o e => gk _ _ e) (pb.isList.at fun o e => gk _ _ e) (by simpa using l1) (by simpa using l2) ln (fun j e x => ?_) fun g3 tk dm kp => ?_
      · obtain ⟨u, b1, b2, b3⟩ := hp j e x
        exact ⟨u, by simpa using b1, by simpa using b2, b3⟩
      · have ge5 : s1.heap.objs.size ≤ g.objs.size := by rw [gs]; exact Nat.le_add_right _ _
        have nm : (g.objs.size == sysModules) = false := beq_eq_false_iff_ne.mpr (Nat.ne_of_gt (Nat.lt_of_lt_of_le I1.big ge5))
        have hlen : (mergeK [] kvs).length ≤ sizeLine := by
          refine Nat.le_trans (length_mergeK kvs []) ?_
          rw [List.length_nil, Nat.zero_add, kv.length]
          exact ln
        have keep : ∀ d o, s1.heap.get? d = some o → g3.get? d = some o := fun d o e => by
          have lt := Heap.lt_size e
          have up : ∀ n : Nat, d ≠ s1.heap.objs.size + n := fun n => Nat.ne_of_lt (Nat.lt_of_lt_of_le lt (Nat.le_add_right _ _))
          exact kp d o (up 4) (up 3) (up 0) (up 1) (gk _ _ e)
        exact ⟨.ref g.objs.size, upd H1 g.objs.size (.dK (mergeK [] kvs)), I1.laid (t' := tk) keep ge5 (show ObjOk X.prog X.w _ _ _ (.dK (mergeK [] kvs)) from ⟨hlen, nm, merged [] prs, KV.merge kv .nil, dm⟩), rfl, q _ (I1.hok.fresh ge5)⟩
end
section
variable {σ : Sig} {H : Hp} {Q : VK} {K : PySem.W.Frag}
theorem R_dz {ta : TA} (h : ta σ H fun vs H1 => ∃ (a b : Addr) (kvs : List (Key × V)), vs = [V.ref a, V.ref b] ∧ SqL K H1 a (kvs.map fun e => kV e.1) ∧ SqL K H1 b (kvs.map fun e => e.2) ∧ Laid Q (.dK (mergeK [] kvs)) H1) : tDZ K ta σ H Q := h
end
end L3

set_option maxRecDepth 100000
namespace L3
open PySem PySem.Spec PyProof.Rows L2
section
variable {X : Cx}
/-! ### xs.remove(n) of a list of whole numbers -/
end
section
variable {σ : Sig} {H : Hp} {Q : VK} {K : PySem.W.Frag} {g : TG} {tb : TS} {D : Ends}
theorem R_iRng3 {ta : TA} {R : It → Hp → Prop} (h : ta σ H fun vs H1 => ∃ (i j c : Int) (n : Nat), vs = [.int i, .int j, .int c] ∧ RgC i j c n ∧ R (Itc i c n) H1) : iRng3 ta σ H R := h
end
end L3

set_option maxRecDepth 100000
namespace L3
open PySem PySem.Spec PyProof.Rows L2
section
variable {prog : Program} {w : World} {A : Around} {R : Result → Shared → Prop} {J : Addr} {fp wr : List Addr} {n : Nat} {P : Nat → Value → Prop} {St : Nat → Heap → Prop} {kw : List (Str × Value)}
/-! ### max(xs, default = d) -/
end
section
variable {prog : Program} {w : World} {A : Around} {E : Value → Shared → Prop} {s : Shared}
end
end L3
namespace L3
open PySem PySem.Spec PyProof.Rows L2
section
variable {prog : Program} {w : World} {A : Around} {E : Value → Shared → Prop} {s : Shared} {l : Addr} {its : List Value} {ns : List Int} {Q : Value → Shared → Prop}
end
section
variable {X : Cx}
def tMaxD (K : PySem.W.Frag) (t tk : TA) : TE := fun σ H Q => t σ H fun vs H1 => tk σ H1 fun ds H2 => ∃ (a : Addr) (ns : List Int) (d : Int), vs = [V.ref a] ∧ ds = [V.int d] ∧ SqL K H2 a (ns.map V.int) ∧ (ns = [] → Q (.int d) H2) ∧ ∀ m, m ∈ ns → (∀ y, y ∈ ns → y ≤ m) → Q (.int m) H2
end
section
variable {σ : Sig} {H : Hp} {Q : VK} {K : PySem.W.Frag}
theorem R_maxD {t tk : TA} (h : t σ H fun vs H1 => tk σ H1 fun ds H2 => ∃ (a : Addr) (ns : List Int) (d : Int), vs = [V.ref a] ∧ ds = [V.int d] ∧ SqL K H2 a (ns.map V.int) ∧ (ns = [] → Q (.int d) H2) ∧ ∀ m, m ∈ ns → (∀ y, y ∈ ns → y ≤ m) → Q (.int m) H2) : tMaxD K t tk σ H Q := h
end
end L3

set_option maxRecDepth 100000
namespace L3
open PySem PySem.Spec PyProof.Rows L2
/-! ### None as a key -/
section
variable {prog : Program} {w : World} {A : Around} {E : Value → Shared → Prop} {s : Shared}
end
section
variable {X : Cx} {pins : List (Addr × Obj)} {σ : Sig} {H : Hp} {s : Shared} {d : Addr} {A : Around} {E : Value → Shared → Prop}
end
section
variable {X : Cx}
/-- k in d, k a whole number or None -/
def tDInO (ty td : TE) : TE := fun σ H Q => ty σ H fun y H1 => td σ H1 fun x H2 => ∃ (a : Addr) (kvs : List (Key × V)), x = .ref a ∧ H2 a = some (.dK kvs) ∧ ((y = .non ∧ Q (.bl false) H2) ∨ ∃ n : Int, y = .int n ∧ Q (.bl (valV kvs (Sum.inl n)).isSome) H2)
end
section
variable {σ : Sig} {H : Hp} {Q : VK}
theorem R_dinO {ty td : TE} (h : ty σ H fun y H1 => td σ H1 fun x H2 => ∃ (a : Addr) (kvs : List (Key × V)), x = .ref a ∧ H2 a = some (.dK kvs) ∧ ((y = .non ∧ Q (.bl false) H2) ∨ ∃ n : Int, y = .int n ∧ Q (.bl (valV kvs (Sum.inl n)).isSome) H2)) : tDInO ty td σ H Q := h
end
end L3

set_option maxRecDepth 100000
namespace L3
open PySem PySem.Spec PyProof.Rows L2
section
variable {prog : Program} {w : World} {A : Around} {E : Value → Shared → Prop} {s : Shared}
/-! ### (a, b, c).index(n) -/
end
end L3
namespace L3
open PySem PySem.Spec PyProof.Rows L2
section
variable {X : Cx}
end
end L3

set_option linter.all false
set_option maxRecDepth 100000
set_option linter.all false
set_option maxRecDepth 100000
local macro_rules | `(tactic| walk_at "sq") => `(tactic| first
  | assumption
  | exact L2.SqL.of (by assumption)
  | exact L2.SqT.of (by assumption)
  | (with_reducible exact L2.SqL.of L2.upd_same)
  | (with_reducible exact L2.SqT.of L2.upd_same)
  | ((with_reducible refine L3.sq_up ?_ (by assumption)); walk_at "sq")
  | ((with_reducible refine L3.sqT_same (L3.same_up (by assumption)) ?_); walk_at "sq")
  | ((with_reducible refine L2.Same.seq (by assumption) ?_); walk_at "sq")
  | ((with_reducible refine L3.sqT_same (by assumption) ?_); walk_at "sq"))
local macro_rules | `(tactic| walk_at "one") => `(tactic| first
  | ((with_reducible refine' L3.R_var ?hv ?_); (case hv => exact rfl))
  | with_reducible refine L3.R_C ?_
  | with_reducible refine L3.R_op ?_
  | with_reducible refine L3.R_un ?_
  | with_reducible refine L3.R_rU ?_
  | with_reducible refine L3.R_rI0 ?_
  | ((with_reducible refine' L3.R_rIm ?_ ?hc); (case hc => first | omega | exact L3.cmul (by omega) | exact L3.cmul2 (by omega) | exact ⟨by omega, by omega⟩))
  | with_reducible refine L3.R_rIm ?_ ?_
  | with_reducible refine L3.R_rEq ?_
  | with_reducible refine L3.R_rNe ?_
  | with_reducible refine L3.R_isN ?_
  | with_reducible refine L3.R_notN ?_
  | with_reducible refine L3.R_test ?_
  | with_reducible refine L3.R_B ?_
  | with_reducible refine L3.R_isbl ?_
  | with_reducible refine L2.iteT ?_
  | with_reducible refine L2.iteF ?_
  | ((with_reducible refine' L3.R_few ?hn ?_); (case hn => exact Nat.le_of_ble_eq_true rfl))
  | ((with_reducible refine L3.R_laid ?_); intro _ _ _ _ _)
  | with_reducible refine L3.R_or ?_
  | with_reducible refine L3.R_and ?_
  | with_reducible refine L3.R_not ?_
  | with_reducible refine L3.R_andV ?_
  | with_reducible refine L3.R_orV ?_
  | with_reducible refine L3.R_notV ?_
  | with_reducible refine L3.R_ifE ?_
  | with_reducible refine L3.R_chain ?_
  | with_reducible refine L3.R_cb ?_
  | with_reducible refine L3.R_cons ?_
  | with_reducible refine L3.R_nil ?_
  | with_reducible refine L3.R_tup ?_
  | with_reducible refine L3.R_lst ?_
  | with_reducible refine L3.R_own ?_
  | ((with_reducible refine' L3.R_lenI ?hq ?_); (case hq => walk_at "sq"))
  | ((with_reducible refine' L3.R_ixI ?hq ?_ ?h0 ?h1); (case hq => walk_at "sq"); (case h0 => omega); (case h1 => omega); (try dsimp only [Int.reduceToNat]))
  | ((with_reducible refine' L3.R_toTup ?hq ?_); (case hq => walk_at "sq"))
  | ((with_reducible refine' L3.R_toLst ?hq ?_); (case hq => walk_at "sq"))
  | with_reducible refine L3.R_min2 ?_
  | with_reducible refine L3.R_max2 ?_
  | with_reducible refine L3.R_sl ?_
  | with_reducible refine L3.R_noPart ?_
  | with_reducible refine L3.R_part ?_
  | with_reducible refine L3.R_isint ?_
  | ((with_reducible refine' L3.R_slL ?hq ?_); (case hq => walk_at "sq"))
  | with_reducible refine L3.R_bm ?_
  | with_reducible refine L3.R_bm0 ?_
  | with_reducible refine L3.R_seq ?_
  | with_reducible refine L3.R_if ?_
  | with_reducible refine L3.R_ret ?_
  | with_reducible refine L3.R_retN ?_
  | with_reducible refine L3.R_next ?_
  | with_reducible refine L3.R_cont ?_
  | with_reducible refine L3.R_break ?_
  | with_reducible refine L3.R_drop ?_
  | with_reducible refine L3.R_asg ?_
  | ((with_reducible refine L3.R_name ?_); (try dsimp only [List.set]))
  | with_reducible refine L3.R_sub ?_
  | with_reducible refine L3.R_for ?_
  | with_reducible refine L3.R_iRng1 ?_
  | with_reducible refine L3.R_iRng2 ?_
  | with_reducible refine L3.R_iTup ?_
  | with_reducible refine L3.R_iLst ?_
  | ((with_reducible refine' L3.R_rng1 ?_ ?h0 ?h1); (case h0 => omega); (case h1 => omega))
  | with_reducible refine L3.R_rng1 ?_ ?_ ?_
  | ((with_reducible refine' L3.R_rng2 ?_ ?h0); (case h0 => omega))
  | with_reducible refine L3.R_rng2 ?_ ?_
  | ((with_reducible refine' L3.R_itT ?hq ?_); (case hq => walk_at "sq"))
  | ((with_reducible refine' L3.R_itL ?hq ?_); (case hq => walk_at "sq"))
  | with_reducible refine L3.R_lc ?_
  | with_reducible refine L3.R_enum ?_
  | with_reducible refine L3.R_zip ?_
  | ((with_reducible refine' L3.R_itE ?hq ?_); (case hq => walk_at "sq"))
  | ((with_reducible refine' L3.R_itEc ?hq ?_); (case hq => walk_at "sq"))
  | ((with_reducible refine' L3.R_itLc ?hq ?_); (case hq => walk_at "sq"))
  | ((with_reducible refine' L3.R_rng1c ?_ ?h0 ?h1); (case h0 => omega); (case h1 => omega))
  | ((with_reducible refine' L3.R_itZ ?hq ?hr ?_); (case hq => walk_at "sq"); (case hr => walk_at "sq"))
  | ((with_reducible refine' L3.R_itZc ?hq ?hr ?_); (case hq => walk_at "sq"); (case hr => walk_at "sq"))
  | ((with_reducible refine' L3.R_tup2 ?hq ?_); (case hq => walk_at "sq"); (try dsimp only [List.set]))
  | with_reducible refine L3.R_yes ?_
  | ((with_reducible refine L3.R_dnew ?_); intro _ _)
  | with_reducible refine L3.R_dget ?_
  | with_reducible refine L3.R_din ?_
  | with_reducible refine L3.R_dnotin ?_
  | with_reducible refine L3.R_dput ?_
  | with_reducible refine L3.R_rngO ?_
  | with_reducible refine L3.R_dz ?_
  | with_reducible refine L3.R_iRng3 ?_
  | with_reducible refine L3.R_maxD ?_
  | with_reducible refine L3.R_dinO ?_
  | ((with_reducible refine' L3.R_lenD ?hq ?_); (case hq => assumption))
  | ((with_reducible refine' L3.R_listR ?hq ?_ ?h0 ?h1); (case hq => assumption); (case h0 => omega); (case h1 => omega)))
local macro_rules | `(tactic| walk_at "go") => `(tactic| repeat walk_at "one")
local macro_rules | `(tactic| walk_at "if") => `(tactic| first
  | with_reducible refine L3.ite_dec (fun c => ?_) (fun c => ?_)
  | with_reducible refine L3.ite_ndec (fun c => ?_) (fun c => ?_))
namespace Il
open PySem PySem.Spec PyProof.Rows L2 L3
/-! ### promises -/
def sp_count_uprights (_ : PySem.W.Frag) : Sp := fun vs H Q _ => ∃ w h : Int, vs = [.int w, .int h] ∧ (0 ≤ w ∧ w ≤ 255) ∧ (0 ≤ h ∧ h ≤ 255) ∧ Q (.int ((w - 1) * h)) H
def sp_count_places (_ : PySem.W.Frag) : Sp := fun vs H Q _ => ∃ w h : Int, vs = [.int w, .int h] ∧ (0 ≤ w ∧ w ≤ 255) ∧ (0 ≤ h ∧ h ≤ 255) ∧ Q (.int (cp w h)) H
/-- bytes that are handed in -/
structure BAt (K : PySem.W.Frag) (H : Hp) (a : Addr) (b : List Int) : Prop where
  sq : SqL K H a (b.map V.int)
  byt : Byt b
  len : b.length ≤ 2000
theorem BAt.same {K : PySem.W.Frag} {H H' : Hp} {a : Addr} {b : List Int} (h : BAt K H a b) (e : Same H H') : BAt K H' a b := ⟨e.seq h.sq, h.byt, h.len⟩
def sp_find_fault (K : PySem.W.Frag) : Sp := fun vs H Q _ => ∃ (a : Addr) (b : List Int), vs = [.ref a] ∧ BAt K H a b ∧
  (ff b = none → ∀ H', Same H H' → Q .non H') ∧ (∀ k p, ff b = some (k, p) → ∀ H' l, Same H H' → H' l = some (.tup [.int k, .int p]) → Q (.ref l) H')
def sp_find_refusal (K : PySem.W.Frag) : Sp := fun vs H Q _ => ∃ (a : Addr) (b : List Int), vs = [.ref a] ∧ BAt K H a b ∧ ∀ H', Same H H' → Q (.int (fr b)) H'
/-- an answer: a list of whole numbers -/
def Ans (Q : VK) (r : List Int) : Prop := ∀ (H' : Hp) (l : Addr), H' l = some (.lst (r.map V.int)) → Q (.ref l) H'

def sp_find_squares (_ : PySem.W.Frag) : Sp := fun vs H Q _ => ∃ (p w h : Int), vs = [.int p, .int w, .int h] ∧ 0 ≤ p ∧ p < cp w h ∧ (1 ≤ w ∧ w ≤ 8) ∧ (1 ≤ h ∧ h ≤ 8) ∧ ∀ H' l, Same H H' → H' l = some (.tup [.int (sqs p w h).1, .int (sqs p w h).2]) → Q (.ref l) H'
def sp_is_too_long (K : PySem.W.Frag) : Sp := fun vs H Q _ => ∃ (a : Addr) (ns : List Int), vs = [.ref a] ∧ (SqL K H a (ns.map V.int) ∧ Q (.bl (decide (1024 < ns.length))) H)
theorem ln_is_too_long {K : PySem.W.Frag} {vs : List V} {H : Hp} {Q : VK} {E : XK} (h : sp_is_too_long K vs H Q E) : vs.length = 1 := by obtain ⟨_, _, rfl, _⟩ := h; rfl
/-- a right panel's bytes -/
structure PAt (K : PySem.W.Frag) (H : Hp) (a : Addr) (b : List Int) : Prop where
  at_ : BAt K H a b
  ok : fr b = 0
theorem PAt.same {K : PySem.W.Frag} {H H' : Hp} {a : Addr} {b : List Int} (h : PAt K H a b) (e : Same H H') : PAt K H' a b := ⟨h.at_.same e, h.ok⟩
theorem PAt.right {K : PySem.W.Frag} {H : Hp} {a : Addr} {b : List Int} (h : PAt K H a b) : Right b := right_of (fr_zero h.ok).1
/-- a new list of whole numbers -/
def NewL (Q : VK) (H : Hp) (ns : List Int) : Prop := ∀ (H' : Hp) (l : Addr), Same H H' → H l = none → H' l = some (.lst (ns.map V.int)) → Q (.ref l) H'
def sp_count_squares (K : PySem.W.Frag) : Sp := fun vs H Q _ => ∃ (a : Addr) (b : List Int), vs = [.ref a] ∧ (PAt K H a b ∧ Q (.int ((panel b).squares : Nat)) H)
theorem ln_count_squares {K : PySem.W.Frag} {vs : List V} {H : Hp} {Q : VK} {E : XK} (h : sp_count_squares K vs H Q E) : vs.length = 1 := by obtain ⟨_, _, rfl, _⟩ := h; rfl
section
variable {K : PySem.W.Frag} {vs : List V} {H : Hp} {Q : VK} {E : XK}
theorem ln_find_squares (h : sp_find_squares K vs H Q E) : vs.length = 3 := by obtain ⟨_, _, _, rfl, _⟩ := h; rfl
theorem ln_count_uprights (h : sp_count_uprights K vs H Q E) : vs.length = 2 := by obtain ⟨_, _, rfl, _⟩ := h; rfl
theorem ln_count_places (h : sp_count_places K vs H Q E) : vs.length = 2 := by obtain ⟨_, _, rfl, _⟩ := h; rfl
theorem ln_find_fault (h : sp_find_fault K vs H Q E) : vs.length = 1 := by obtain ⟨_, _, rfl, _⟩ := h; rfl
theorem ln_find_refusal (h : sp_find_refusal K vs H Q E) : vs.length = 1 := by obtain ⟨_, _, rfl, _⟩ := h; rfl
end
/-! ### transformers (made by tools/gen.py) -/
def t_count_uprights (K : PySem.W.Frag) : TS :=
  (tRet (tOp (rI CMul fun i j => .int (i * j)) (tOp (rI0 fun i j => .int (i - j)) (tVar 0) (tC (.int 1))) (tVar 1)))
def t_count_squares (K : PySem.W.Frag) : TS :=
  (tRet (tOp (rI CMul fun i j => .int (i * j)) (tOp (rIxL K) (tVar 0) (tC (.int 4))) (tOp (rIxL K) (tVar 0) (tC (.int 5)))))
def t_count_places (K : PySem.W.Frag) : TS :=
  (tRet (tOp (rI0 fun i j => .int (i + j)) (tOwn (sp_count_uprights K) (tCons (tVar 0) (tCons (tVar 1) tNil))) (tOp (rI CMul fun i j => .int (i * j)) (tVar 0) (tOp (rI0 fun i j => .int (i - j)) (tVar 1) (tC (.int 1))))))
def t_find_fault (K : PySem.W.Frag) (a_MARK : Addr) : TS :=
  (tSeq (tIfS (tOr (tTest (tOp (rI0 fun i j => .bl (decide (i < j))) (tCB (rLen K) (tCons (tVar 0) tNil)) (tC (.int 6)))) (tTest (tOp (rNeD K) (tCB (rTup K) (tCons (tSl (rSlL K) (tVar 0) tNoPart (tPart (tC (.int 4)))) tNil)) (tC (.ref a_MARK))))) (tRet (tTup (tCons (tC (.int 1)) (tCons (tC (.int 0)) tNil)))) tNext)
    (tSeq (tFor (iTup K (tTup (tCons (tC (.int 4)) (tCons (tC (.int 5)) tNil)))) (gName 1) (tIfS (tOr (tTest (tOp (rI0 fun i j => .bl (decide (i < j))) (tOp (rIxL K) (tVar 0) (tVar 1)) (tC (.int 1)))) (tTest (tOp (rI0 fun i j => .bl (decide (j < i))) (tOp (rIxL K) (tVar 0) (tVar 1)) (tC (.int 8))))) (tRet (tTup (tCons (tC (.int 2)) (tCons (tVar 1) tNil)))) tNext))
    (tSeq (tIfS (tTest (tOp rNe (tCB (rLen K) (tCons (tVar 0) tNil)) (tOp (rI0 fun i j => .int (i + j)) (tC (.int 6)) (tOwn (sp_count_places K) (tCons (tOp (rIxL K) (tVar 0) (tC (.int 4))) (tCons (tOp (rIxL K) (tVar 0) (tC (.int 5))) tNil)))))) (tRet (tTup (tCons (tC (.int 1)) (tCons (tC (.int 4)) tNil)))) tNext)
    (tSeq (tFor (iRng2 (tCons (tC (.int 6)) (tCons (tCB (rLen K) (tCons (tVar 0) tNil)) tNil))) (gName 1) (tIfS (tTest (tOp (rI0 fun i j => .bl (decide (j < i))) (tOp (rIxL K) (tVar 0) (tVar 1)) (tC (.int 2)))) (tRet (tTup (tCons (tC (.int 3)) (tCons (tVar 1) tNil)))) tNext))
    (tRet (tC .non))))))
def t_is_too_long (K : PySem.W.Frag) : TS :=
  (tRet (tOp (rI0 fun i j => .bl (decide (j < i))) (tCB (rLen K) (tCons (tVar 0) tNil)) (tC (.int 1024))))
def t_find_refusal (K : PySem.W.Frag) : TS :=
  (tSeq (tIfS (tB (tOwn (sp_is_too_long K) (tCons (tVar 0) tNil))) (tRet (tC (.int (-2)))) tNext)
    (tSeq (tIfS (tTest (tOp rNotN (tOwn (sp_find_fault K) (tCons (tVar 0) tNil)) (tC .non))) (tRet (tC (.int (-6)))) tNext)
    (tRet (tC (.int 0)))))
def t_find_squares (K : PySem.W.Frag) : TS :=
  (tSeq (tAsg (tOwn (sp_count_uprights K) (tCons (tVar 1) (tCons (tVar 2) tNil))) (gName 3))
    (tSeq (tIfS (tTest (tOp (rI0 fun i j => .bl (decide (i < j))) (tVar 0) (tVar 3))) (tSeq (tAsg (tOp (rI0 fun i j => .int (i + j)) (tOp (rI CMul fun i j => .int (i * j)) (tOp (rI CDiv fun i j => .int (i / j)) (tVar 0) (tOp (rI0 fun i j => .int (i - j)) (tVar 1) (tC (.int 1)))) (tVar 1)) (tOp (rI (fun _ j => 0 < j) fun i j => .int (i % j)) (tVar 0) (tOp (rI0 fun i j => .int (i - j)) (tVar 1) (tC (.int 1))))) (gName 4))
    (tRet (tTup (tCons (tVar 4) (tCons (tOp (rI0 fun i j => .int (i + j)) (tVar 4) (tC (.int 1))) tNil))))) tNext)
    (tSeq (tAsg (tOp (rI0 fun i j => .int (i - j)) (tVar 0) (tVar 3)) (gName 5))
    (tRet (tTup (tCons (tVar 5) (tCons (tOp (rI0 fun i j => .int (i + j)) (tVar 5) (tVar 1)) tNil)))))))

/-! ### readings -/
section
variable {K : PySem.W.Frag} {vs : List V} {H : Hp} {Q : VK} {E : XK}
theorem rd_count_uprights (h : sp_count_uprights K vs H Q E) : t_count_uprights K { nx := fun _ H' => Q .non H', rt := Q } (start ["wide", "high"] vs) H := by
  obtain ⟨w, h, rfl, ⟨w0, w1⟩, ⟨h0, h1⟩, q⟩ := h
  show t_count_uprights K _ [some (.int w), some (.int h)] H
  unfold t_count_uprights
  walk_at "go"
  exact q
theorem rd_count_places (h : sp_count_places K vs H Q E) : t_count_places K { nx := fun _ H' => Q .non H', rt := Q } (start ["wide", "high"] vs) H := by
  obtain ⟨w, h, rfl, ⟨w0, w1⟩, ⟨h0, h1⟩, q⟩ := h
  show t_count_places K _ [some (.int w), some (.int h)] H
  unfold t_count_places
  walk_at "go"
  refine ⟨w, h, rfl, ⟨w0, w1⟩, ⟨h0, h1⟩, ?_⟩
  walk_at "go"
  exact q
theorem rd_find_fault {a_MARK : Addr} (hM : ∀ H, SqT K H a_MARK (([80, 76, 80, 49] : List Int).map V.int)) (h : sp_find_fault K vs H Q E) : t_find_fault K a_MARK { nx := fun _ H' => Q .non H', rt := Q } (start ["b", "at"] vs) H := by
  obtain ⟨a, b, rfl, ⟨hb, hy, hz⟩, k0, k1⟩ := h
  show t_find_fault K a_MARK _ [some (.ref a), none] H
  unfold t_find_fault
  walk_at "go"
  walk_at "if"
  · -- too short
    walk_at "go"
    refine k1 1 0 ?_ _ _ (by assumption) (by assumption)
    unfold ff
    rw [if_pos (.inl (by omega))]
  walk_at "go"
  rename_i c1 l1 H1 n1 s1 e1 l2 H2 n2 s2 e2
  rw [cut_to (by decide)] at e2
  refine R_neT (ns := b.take 4) (ms := [80, 76, 80, 49]) (SqT.of e2) (hM _) ?_
  have s02 : Same H H2 := s1.trans s2
  walk_at "go"
  walk_at "if"
  · -- another mark
    walk_at "go"
    rename_i c2 l3 H3 n3 s3 e3
    refine k1 1 0 ?_ _ _ (s02.trans s3) e3
    unfold ff
    rw [if_pos (.inr c2)]
  rename_i c2
  walk_at "go"
  rename_i l3 H3 n3 s3 e3
  have s03 : Same H H3 := s02.trans s3
  have hlen : 6 ≤ b.length := by omega
  have nm : ¬ (b.length < 6 ∨ b.take 4 ≠ [80, 76, 80, 49]) := by
    rintro (z | z)
    · omega
    · exact z c2
  have g4 := hy.getD 4
  have g5 := hy.getD 5
  refine loop_tup (xs := [.int 4, .int 5]) (fun i σ H' => ∃ v, σ = [some (.ref a), v] ∧ Same H3 H' ∧ (0 < i → 1 ≤ b.getD 4 0 ∧ b.getD 4 0 ≤ 8) ∧ (1 < i → 1 ≤ b.getD 5 0 ∧ b.getD 5 0 ≤ 8))
    ⟨none, rfl, Same.refl _, by omega, by omega⟩ (fun i σ H' _ ⟨_, _, s4, _⟩ => sqT_same s4 (SqT.of e3)) ?_ ?_
  · rintro i x σ H' hi ⟨v, rfl, s4, p4, p5⟩
    have s04 : Same H H' := s03.trans s4
    have hb' : SqL K H' a (b.map V.int) := s04.seq hb
    match i, hi with
    | 0, hi =>
      cases hi
      walk_at "go"
      walk_at "if"
      · walk_at "go"
        rename_i c _ _ _ s5 e5
        refine k1 2 4 ?_ _ _ (s04.trans s5) e5
        unfold ff
        rw [if_neg nm, if_pos (by omega)]
      walk_at "go"
      walk_at "if"
      · walk_at "go"
        rename_i c _ _ _ s5 e5
        refine k1 2 4 ?_ _ _ (s04.trans s5) e5
        unfold ff
        rw [if_neg nm, if_pos (by omega)]
      walk_at "go"
      exact ⟨_, rfl, s4, by omega, by omega⟩
    | 1, hi =>
      cases hi
      walk_at "go"
      walk_at "if"
      · walk_at "go"
        rename_i c _ _ _ s5 e5
        refine k1 2 5 ?_ _ _ (s04.trans s5) e5
        unfold ff
        rw [if_neg nm, if_neg (by omega), if_pos (by omega)]
      walk_at "go"
      walk_at "if"
      · walk_at "go"
        rename_i c _ _ _ s5 e5
        refine k1 2 5 ?_ _ _ (s04.trans s5) e5
        unfold ff
        rw [if_neg nm, if_neg (by omega), if_pos (by omega)]
      walk_at "go"
      exact ⟨_, rfl, s4, by omega, by omega⟩
    | i + 2, hi => simp at hi
  rintro σ H' ⟨v, rfl, s4, p4, p5⟩
  have s04 : Same H H' := s03.trans s4
  have hb' : SqL K H' a (b.map V.int) := s04.seq hb
  have p4 := p4 (by decide)
  have p5 := p5 (by decide)
  walk_at "go"
  refine ⟨_, _, rfl, by omega, by omega, ?_⟩
  walk_at "go"
  walk_at "if"
  · walk_at "go"
    rename_i c _ _ _ s5 e5
    refine k1 1 4 ?_ _ _ (s04.trans s5) e5
    unfold ff
    rw [if_neg nm, if_neg (by omega), if_neg (by omega), if_pos c]
  rename_i c4
  walk_at "go"
  have hff : ff b = match (b.drop 6).findIdx? (fun x => decide (2 < x)) with | some i => some (3, 6 + (i : Int)) | none => none := by
    unfold ff
    rw [if_neg nm, if_neg (by omega), if_neg (by omega), if_neg (fun z => z c4)]
    all_goals (cases (b.drop 6).findIdx? (fun x => decide (2 < x)) <;> rfl)
  refine loop_range (fun i σ H2 => ∃ v, σ = [some (.ref a), v] ∧ Same H' H2 ∧ ∀ j, j < i → ¬ 2 < b.getD (6 + j) 0) ⟨v, rfl, Same.refl _, fun j h => by omega⟩ ?_ ?_
  · rintro i σ H2 hi ⟨v, rfl, s5, p⟩
    have s05 : Same H H2 := s04.trans s5
    have hb2 : SqL K H2 a (b.map V.int) := s05.seq hb
    walk_at "go"
    have e6 : (6 + (i : Int)).toNat = 6 + i := by omega
    rw [e6]
    walk_at "if"
    · walk_at "go"
      rename_i c _ _ _ s6 e7
      refine k1 3 (6 + (i : Int)) ?_ _ _ (s05.trans s6) e7
      rw [hff]
      have e8 : (b.drop 6).findIdx? (fun x => decide (2 < x)) = some i := by
        rw [List.findIdx?_eq_some_iff_getElem]
        refine ⟨by rw [List.length_drop]; omega, ?_, fun j hj => ?_⟩
        · rw [List.getElem_drop]
          rw [List.getD_eq_getElem?_getD, List.getElem?_eq_getElem (by omega)] at c
          exact decide_eq_true c
        · have c' := p j hj
          rw [List.getD_eq_getElem?_getD, List.getElem?_eq_getElem (by omega)] at c'
          rw [List.getElem_drop]
          simpa using c'
      rw [e8]
    walk_at "go"
    rename_i c
    refine ⟨_, rfl, s5, fun j hj => ?_⟩
    rcases Nat.lt_or_eq_of_le (Nat.le_of_lt_succ hj) with z | z
    · exact p j z
    · rw [z]; exact c
  · rintro σ H2 ⟨v, rfl, s5, p⟩
    walk_at "go"
    refine k0 ?_ _ (s04.trans s5)
    rw [hff]
    have e8 : (b.drop 6).findIdx? (fun x => decide (2 < x)) = none := by
      rw [List.findIdx?_eq_none_iff]
      intro x hx
      obtain ⟨j, hj, rfl⟩ := List.mem_iff_getElem.mp hx
      rw [List.length_drop] at hj
      have c' := p j (by omega)
      rw [List.getD_eq_getElem?_getD, List.getElem?_eq_getElem (by omega)] at c'
      rw [List.getElem_drop]
      simpa using c'
    rw [e8]
theorem rd_is_too_long {K : PySem.W.Frag} {vs : List V} {H : Hp} {Q : VK} {E : XK} (h : sp_is_too_long K vs H Q E) : t_is_too_long K { nx := fun _ H' => Q .non H', rt := Q } (start ["numbers"] vs) H := by
  obtain ⟨a, ns, rfl, ⟨hq, q⟩⟩ := h
  show t_is_too_long K _ [some (.ref a)] H
  unfold t_is_too_long
  walk_at "go"
  have e : decide ((1024 : Int) < (ns.length : Int)) = decide (1024 < ns.length) := decide_eq_decide.mpr (by omega)
  rw [e]
  exact q
theorem rd_find_refusal (h : sp_find_refusal K vs H Q E) : t_find_refusal K { nx := fun _ H' => Q .non H', rt := Q } (start ["b"] vs) H := by
  obtain ⟨a, b, rfl, hb, q⟩ := h
  have hq := hb.sq
  show t_find_refusal K _ [some (.ref a)] H
  unfold t_find_refusal
  walk_at "go"
  refine ⟨a, b, rfl, hq, ?_⟩
  walk_at "go"
  walk_at "if"
  · walk_at "go"
    have e : fr b = -2 := by unfold fr; rw [if_pos (by omega)]
    rw [e] at q
    exact q _ (Same.refl _)
  rename_i c
  walk_at "go"
  refine ⟨a, b, rfl, hb, fun e H' s => ?_, fun k p e H' l s hl => ?_⟩
  · walk_at "go"
    refine L2.iteF ?_
    walk_at "go"
    have e : fr b = 0 := by unfold fr; rw [if_neg (by omega), if_pos e]
    rw [e] at q
    exact q _ s
  · walk_at "go"
    refine L2.iteT ?_
    walk_at "go"
    have e : fr b = -6 := by unfold fr; rw [if_neg (by omega), if_neg (by rw [e]; simp)]
    rw [e] at q
    exact q _ s
theorem ans {r : List Int} {l : Addr} {xs : List V} (h : Ans Q r) (hl : H l = some (.lst xs)) (e : xs = r.map V.int) : Q (.ref l) H := h _ _ (by rw [hl, e])
theorem rd_find_squares (h : sp_find_squares K vs H Q E) : t_find_squares K { nx := fun _ H' => Q .non H', rt := Q } (start ["p", "wide", "high", "uprights", "left", "upper"] vs) H := by
  obtain ⟨p, w, h, rfl, p0, p1, ⟨w1, w8⟩, ⟨h1, h8⟩, k⟩ := h
  show t_find_squares K _ [some (.int p), some (.int w), some (.int h), none, none, none] H
  unfold t_find_squares
  walk_at "go"
  refine ⟨_, _, rfl, by omega, by omega, ?_⟩
  walk_at "go"
  walk_at "if"
  · rename_i c
    have w2 : 0 < w - 1 := by
      rcases Int.lt_or_le 0 (w - 1) with z | z
      · exact z
      · have : w = 1 := by omega
        subst this
        simp at c
        omega
    walk_at "go"
    rename_i l1 H1 n1 s1 e1
    refine k _ _ s1 ?_
    unfold sqs
    rw [if_pos c]
    exact e1
  rename_i c
  walk_at "go"
  rename_i l1 H1 n1 s1 e1
  refine k _ _ s1 ?_
  unfold sqs
  rw [if_neg c]
  exact e1
theorem rd_count_squares {K : PySem.W.Frag} {vs : List V} {H : Hp} {Q : VK} {E : XK} (h : sp_count_squares K vs H Q E) : t_count_squares K { nx := fun _ H' => Q .non H', rt := Q } (start ["b"] vs) H := by
  obtain ⟨a, b, rfl, ⟨hb, q⟩⟩ := h
  show t_count_squares K _ [some (.ref a)] H
  unfold t_count_squares
  walk_at "go"
  have R := hb.right
  have hq := hb.at_.sq
  obtain ⟨_, w1, w8, h1, h8, _, le6, _⟩ := R
  walk_at "go"
  have e : b.getD 4 0 * b.getD 5 0 = ((panel b).squares : Nat) := by
    unfold Plait.Panel.squares
    rw [Int.natCast_mul, wide_of hb.right, high_of hb.right]
  rw [← e] at q
  exact q
theorem upto {n : Nat} (h : n ≤ 60000) : n ≤ sizeLine := Nat.le_trans h (by rw [sizeLine_eq]; decide)
/-! place -/
section
variable {a_STEPS a0 a1 a2 a3 : Addr} (h : ∀ H, SqT K H a_STEPS [.ref a0, .ref a1, .ref a2, .ref a3]) (h0 : ∀ H, SqT K H a0 [.int 0, .int (-1)]) (h1 : ∀ H, SqT K H a1 [.int 1, .int 0]) (h2 : ∀ H, SqT K H a2 [.int 0, .int 1]) (h3 : ∀ H, SqT K H a3 [.int (-1), .int 0])
include h h0 h1 h2 h3
end
end
end Il

/-! A panel traced: strands by their least pieces, numbered. -/
namespace Plait
section
variable (D : Panel)
theorem traced_least {i : Nat} (hi : i < D.pieces) : D.traced.least.getD i i = D.leastOf i := by
  show ((List.range D.pieces).map D.leastOf).getD i i = _
  rw [List.getD_eq_getElem?_getD, List.getElem?_map, List.getElem?_range hi]
  rfl
/-- whether a piece is the least of its strand -/
def Panel.isHead (i : Nat) : Bool := D.leastOf i == i
/-- how many strands have a least piece below i -/
def Panel.cnt (i : Nat) : Nat := ((List.range i).filter D.isHead).length
theorem heads_eq : D.traced.heads = (List.range D.pieces).filter D.isHead := by
  show (List.range D.pieces).filter (fun (i : Nat) => ((List.range D.pieces).map D.leastOf).getD i i == i) = _
  refine List.filter_congr fun i hi => ?_
  have e := traced_least D (List.mem_range.mp hi)
  have e' : ((List.range D.pieces).map D.leastOf).getD i i = D.leastOf i := e
  rw [e']
  rfl
theorem mem_heads {i : Nat} : i ∈ D.traced.heads ↔ i < D.pieces ∧ D.leastOf i = i := by
  rw [heads_eq, List.mem_filter, List.mem_range]
  unfold Panel.isHead
  rw [beq_iff_eq]
theorem filter_get {p : Nat → Bool} : ∀ (n h : Nat), h < n → p h = true → ((List.range n).filter p)[((List.range h).filter p).length]? = some h
  | 0, h, hn, _ => by omega
  | n + 1, h, hn, hp => by
    rw [List.range_succ, List.filter_append]
    rcases Nat.eq_or_lt_of_le (Nat.le_of_lt_succ hn) with z | z
    · subst z
      rw [List.getElem?_append_right (Nat.le_refl _), Nat.sub_self, List.filter_cons, if_pos hp]
      rfl
    · have ih := filter_get n h z hp
      have hl : ((List.range h).filter p).length < ((List.range n).filter p).length := (List.getElem?_eq_some_iff.mp ih).1
      rw [List.getElem?_append_left hl]
      exact ih
theorem idxOf_of_get {l : List Nat} {i x : Nat} (hd : l.Nodup) (h : l[i]? = some x) : l.idxOf x = i := by
  obtain ⟨hi, e⟩ := List.getElem?_eq_some_iff.mp h
  rw [← e]
  exact hd.idxOf_getElem i hi
theorem nodup_filter_range (p : Nat → Bool) (n : Nat) : ((List.range n).filter p).Nodup := List.Pairwise.filter _ List.nodup_range
theorem heads_nodup : D.traced.heads.Nodup := by rw [heads_eq]; exact nodup_filter_range _ _
theorem heads_at {h : Nat} (hn : h < D.pieces) (hh : D.leastOf h = h) : D.traced.heads[D.cnt h]? = some h := by
  rw [heads_eq]
  exact filter_get D.pieces h hn (by unfold Panel.isHead; rw [beq_iff_eq]; exact hh)
theorem strandOf_cnt {i : Nat} (hi : i < D.pieces) : D.traced.strandOf i = D.cnt (D.leastOf i) := by
  unfold Traced.strandOf
  rw [traced_least D hi]
  exact idxOf_of_get (heads_nodup D) (heads_at D (least_lt D hi) (least_least D hi))
theorem strandOf_head {i : Nat} (hi : i < D.pieces) : D.traced.heads[D.traced.strandOf i]? = some (D.leastOf i) := by
  rw [strandOf_cnt D hi]
  exact heads_at D (least_lt D hi) (least_least D hi)
theorem strandOf_lt {i : Nat} (hi : i < D.pieces) : D.traced.strandOf i < D.traced.count := (List.getElem?_eq_some_iff.mp (strandOf_head D hi)).1
theorem strandOf_iff {i j : Nat} (hi : i < D.pieces) (hj : j < D.pieces) : D.traced.strandOf i = D.traced.strandOf j ↔ D.leastOf i = D.leastOf j := by
  refine ⟨fun e => ?_, fun e => by rw [strandOf_cnt D hi, strandOf_cnt D hj, e]⟩
  have h1 := strandOf_head D hi
  have h2 := strandOf_head D hj
  rw [e, h2] at h1
  exact (Option.some.inj h1).symm
end
end Plait

namespace Il
open Plait PlaitP
theorem f_free {b : List Int} (h : Byt b) : PyWqbacf.free b = if fr b = 0 then told ((fun (D : Panel) => says (D.traced.count : Nat)) (panel b)) else [fr b] := by
  have e : PlaitNeutral.callOf [[21], b] = some (.free (bOf b)) := by
    show (PlaitNeutral.text? b).map PlaitP.Call.free = _
    rw [text_of h]
    try rfl
  unfold PyWqbacf.free
  rw [f_told e]
  exact told_panel h _
end Il

namespace Plait
section
variable (D : Panel)
end
end Plait

namespace Il
open Plait PlaitP
theorem state_nat {b : List Int} (hb : Byt b) (R : Right b) {p : Nat} (hp : p < (panel b).count) : b.getD (6 + p) 0 = ((panel b).state p : Nat) := by
  have := state_at hb R (p := (p : Int)) (by omega) (by rw [← count_of R]; omega)
  rw [Int.toNat_natCast] at this
  rw [this]
  congr 1
theorem state_le {b : List Int} (hb : Byt b) (R : Right b) {p : Nat} (hp : p < (panel b).count) : (panel b).state p ≤ 2 := by
  have h := state_nat hb R hp
  have hl := R.len
  have hc := count_of R
  have := R.small (b.getD (6 + p) 0) (by
    rw [List.getD_eq_getElem?_getD, List.getElem?_eq_getElem (by omega)]
    have : b[6 + p]'(by omega) = (b.drop 6)[p]'(by rw [List.length_drop]; omega) := by rw [List.getElem_drop]
    rw [Option.getD_some, this]
    exact List.getElem_mem _)
  omega
end Il

set_option linter.all false
set_option maxRecDepth 100000
namespace Il
open PySem PySem.Spec PyProof.Rows L2 L3
/-! ### ends: promises -/
/-! ### readings -/
end Il

set_option linter.all false
set_option maxRecDepth 100000
namespace Il
open PySem PySem.Spec PyProof.Rows L2 L3
theorem PAt.wide8 {K : PySem.W.Frag} {H : Hp} {a : Addr} {b : List Int} (h : PAt K H a b) : (panel b).wide ≤ 8 := by
  have := wide_of h.right
  have := h.right.w8
  omega
theorem PAt.high8 {K : PySem.W.Frag} {H : Hp} {a : Addr} {b : List Int} (h : PAt K H a b) : (panel b).high ≤ 8 := by
  have := high_of h.right
  have := h.right.h8
  omega
abbrev ofN (l : List Nat) : List Int := l.map fun (n : Nat) => (n : Int)
/-! ### tracing: promises -/
/-! ### readings -/
theorem seq_of {H0 H : Hp} {l : Addr} (s : Same H0 H) (n : H l = none) : H0 l = none := by
  cases c : H0 l with
  | none => rfl
  | some o => rw [s _ _ c] at n; cases n
/-! ### the calls -/
end Il

namespace Plait
theorem squaresAt_lt {D : Panel} {p : Nat} (hw : 1 ≤ D.wide) (hp : p < D.count) : (D.squaresAt p).1 < D.squares ∧ (D.squaresAt p).2 < D.squares := by
  unfold Panel.squaresAt
  unfold Panel.count at hp
  by_cases c : p < D.uprights
  · rw [if_pos c]
    unfold Panel.uprights at c
    have w2 : 0 < D.wide - 1 := by
      rcases Nat.eq_zero_or_pos (D.wide - 1) with z | z
      · rw [z, Nat.zero_mul] at c; omega
      · exact z
    have hr : p / (D.wide - 1) < D.high := Nat.div_lt_of_lt_mul c
    have hc : p % (D.wide - 1) < D.wide - 1 := Nat.mod_lt _ w2
    have a := rc_lt (D := D) (r := p / (D.wide - 1)) (c := p % (D.wide - 1)) (by omega) hr
    have b := rc_lt (D := D) (r := p / (D.wide - 1)) (c := p % (D.wide - 1) + 1) (by omega) hr
    exact ⟨a, by dsimp only; omega⟩
  · rw [if_neg c]
    dsimp only
    have e : D.squares = D.wide * (D.high - 1) + D.wide * (if D.high = 0 then 0 else 1) := by
      unfold Panel.squares
      by_cases z : D.high = 0
      · rw [z]; simp
      · rw [if_neg z, ← Nat.mul_add]; congr 1; omega
    by_cases z : D.high = 0
    · rw [z] at hp; simp at hp; omega
    · rw [if_neg z] at e
      omega
theorem sideAt_lt (D : Panel) (p : Nat) : D.sideAt p < 4 := by unfold Panel.sideAt; split <;> decide
end Plait
namespace Il
open Plait
theorem fm_congr {α β : Type} {f g : α → Option β} : ∀ {l : List α}, (∀ x ∈ l, f x = g x) → l.filterMap f = l.filterMap g
  | [], _ => rfl
  | x :: r, h => by rw [List.filterMap_cons, List.filterMap_cons, h x (List.mem_cons_self ..), fm_congr fun y m => h y (List.mem_cons_of_mem _ m)]
/-- the places at which z stands, rising -/
def placesWith (D : Panel) (z : Nat) : List Nat := (List.range D.count).filter fun (p : Nat) => D.state p == z
theorem bars_with (D : Panel) : D.bars = placesWith D 2 := rfl
theorem placesWith_fm {b : List Int} (hb : Byt b) (R : Right b) (z : Nat) : ((List.range (b.drop 6).length).filterMap fun i => if (b.drop 6).getD i 0 = (z : Int) then some (i : Int) else none) = (placesWith (panel b) z).map fun (n : Nat) => (n : Int) := by
  have hc := count_of R
  have hl := R.len
  have e : (b.drop 6).length = (panel b).count := by rw [List.length_drop]; omega
  unfold placesWith
  rw [e, ← List.filterMap_eq_filter, List.map_filterMap]
  refine fm_congr fun i hi => ?_
  rw [List.mem_range] at hi
  have h := state_nat hb R hi
  have e2 : (b.drop 6).getD i 0 = b.getD (6 + i) 0 := by rw [List.getD_eq_getElem?_getD, List.getElem?_drop, List.getD_eq_getElem?_getD]
  rw [e2, h]
  by_cases c : (panel b).state i = z
  · rw [if_pos (by rw [c])]
    simp [Option.guard, c]
  · rw [if_neg (by omega)]
    simp [Option.guard, c]
end Il

set_option linter.all false
set_option maxRecDepth 100000
namespace Il
open PySem PySem.Spec PyProof.Rows L2 L3
theorem PAt.cnt {K : PySem.W.Frag} {H : Hp} {a : Addr} {b : List Int} (h : PAt K H a b) : (panel b).count ≤ 112 := by
  have := count_of h.right
  have := small_cp h.right.w1 h.right.w8 h.right.h1 h.right.h8
  omega
theorem PAt.w1 {K : PySem.W.Frag} {H : Hp} {a : Addr} {b : List Int} (h : PAt K H a b) : 1 ≤ (panel b).wide := by
  have := wide_of h.right
  have := h.right.w1
  omega
theorem PAt.places {K : PySem.W.Frag} {H : Hp} {a : Addr} {b : List Int} (h : PAt K H a b) : (b.drop 6).length = (panel b).count := by
  have := count_of h.right
  have := h.right.len
  rw [List.length_drop]
  omega
def sp_list_places_with (K : PySem.W.Frag) : Sp := fun vs H Q _ => ∃ (z : Nat) (a : Addr) (b : List Int), vs = [.int z, .ref a] ∧ (PAt K H a b ∧ NewL Q H (ofN (placesWith (panel b) z)))
theorem ln_list_places_with {K : PySem.W.Frag} {vs : List V} {H : Hp} {Q : VK} {E : XK} (h : sp_list_places_with K vs H Q E) : vs.length = 2 := by obtain ⟨_, _, _, rfl, _⟩ := h; rfl
def t_list_places_with (K : PySem.W.Frag) : TS :=
  (tRet (tLc (iEnum K (tCons (tSl (rSlL K) (tVar 1) (tPart (tC (.int 6))) tNoPart) tNil)) (gTup K 2 (gCons (gName 2) (gCons (gName 3) gNil))) (tTest (tOp rEq (tVar 3) (tVar 0))) (tVar 2) [2, 3]))
theorem rd_list_places_with {K : PySem.W.Frag} {vs : List V} {H : Hp} {Q : VK} {E : XK} (h : sp_list_places_with K vs H Q E) : t_list_places_with K { nx := fun _ H' => Q .non H', rt := Q } (start ["sign", "b", "p", "z"] vs) H := by
  obtain ⟨z, a, b, rfl, ⟨hb, q⟩⟩ := h
  show t_list_places_with K _ [some (.int z), some (.ref a), none, none] H
  unfold t_list_places_with
  walk_at "go"
  have hq := hb.at_.sq
  walk_at "go"
  rename_i l1 H1 n1 s1 e1
  rw [cut_from (by decide)] at e1
  have e6 : (6 : Int).toNat = 6 := rfl
  rw [e6] at e1
  intro D hD
  have hlen := hb.places
  have hc := hb.cnt
  refine lc_enumR (xs := (b.drop 6).map V.int) (by rw [List.length_map]; omega) (fun i => if (b.drop 6).getD i 0 = (z : Int) then some (i : Int) else none) tells_int hD (SqL.of e1) ?_ ?_
  · intro i x H2 T hx s2 hT S N h1 h2
    obtain ⟨n, hn, rfl⟩ : ∃ n : Int, (b.drop 6)[i]? = some n ∧ V.int n = x := by
      rw [List.getElem?_map] at hx
      exact Option.map_eq_some_iff.mp hx
    have en : (b.drop 6).getD i 0 = n := by rw [List.getD_eq_getElem?_getD, hn]; rfl
    dsimp only [wipe, List.set]
    walk_at "go"
    refine ⟨rfl, ?_⟩
    walk_at "go"
    walk_at "if"
    · rename_i c
      walk_at "go"
      exact h1 _ _ _ (by rw [en, if_pos c]) (Same.refl _) rfl
    · rename_i c
      exact h2 _ (by rw [en, if_neg c]) (Same.refl _)
  · intro H2 vs s2 e2 hp
    refine q _ _ (s1.trans s2) (seq_of s1 hD) ?_
    rw [List.length_map, placesWith_fm hb.at_.byt hb.right] at hp
    rw [e2, paired_ints hp]
/-! ### the calls -/
end Il

namespace Il
open Plait
/-! ### numbers as labels first come -/
def dd (l : List Nat) : List Nat := l.foldl (fun acc x => if x ∈ acc then acc else acc ++ [x]) []
/-! ### heads: each hangs with a lesser one that is a head -/
end Il

set_option linter.all false
set_option maxRecDepth 100000
namespace Il
open PySem PySem.Spec PyProof.Rows L2 L3
def keys (D : Plait.Panel) : List Nat := D.crossings.map fun p => D.traced.heads_.getD (D.traced.strandsAt p).1 0
/-! numbers as labels first come -/
/-! strands by their heads -/
/-! ### the calls -/
end Il

set_option linter.all false
set_option maxRecDepth 100000
namespace Il
open PySem PySem.Spec PyProof.Rows L2 L3
end Il

set_option linter.all false
set_option maxRecDepth 100000
namespace Il
open PySem PySem.Spec PyProof.Rows L2 L3
end Il

set_option linter.all false
set_option maxRecDepth 100000
namespace Il
open PySem PySem.Spec PyProof.Rows L2 L3
end Il

namespace Il
open Plait
/-! ### parts: crossings by what they hang with -/
/-! ### as the specification tells them -/
end Il

set_option linter.all false
set_option maxRecDepth 100000
namespace Il
open PySem PySem.Spec PyProof.Rows L2 L3
end Il

namespace Il
open Plait PlaitP
/-! ### bits -/
def bit (c : Bool) : Int := if c = true then 1 else 0
/-! ### a row of squares, from the left -/
section
variable {D : Panel}
theorem at_left {y x : Nat} (hy : y < D.high) (hx : x + 1 < D.wide) : D.squaresAt (y * (D.wide - 1) + x) = (y * D.wide + x, y * D.wide + x + 1) ∧ D.sideAt (y * (D.wide - 1) + x) = 1 ∧ y * (D.wide - 1) + x < D.count := by
  have hw : 0 < D.wide - 1 := by omega
  have hu : y * (D.wide - 1) + x < D.uprights := by
    unfold Panel.uprights
    have : (y + 1) * (D.wide - 1) ≤ D.high * (D.wide - 1) := Nat.mul_le_mul_right _ hy
    rw [Nat.add_mul, Nat.one_mul, Nat.mul_comm D.high] at this
    omega
  have e1 : (y * (D.wide - 1) + x) / (D.wide - 1) = y := by
    rw [Nat.mul_comm, Nat.mul_add_div hw, Nat.div_eq_of_lt (by omega), Nat.add_zero]
  have e2 : (y * (D.wide - 1) + x) % (D.wide - 1) = x := by
    rw [Nat.mul_comm, Nat.mul_add_mod, Nat.mod_eq_of_lt (by omega)]
  refine ⟨?_, ?_, ?_⟩
  · unfold Panel.squaresAt
    rw [if_pos hu]
    dsimp only
    rw [e1, e2]
  · unfold Panel.sideAt
    rw [if_pos hu]
  · unfold Panel.count
    omega
end
end Il

namespace Il
open Plait PlaitP
/-! ### sides of squares, places -/
theorem len_same : ∀ {l m : List Nat}, l.Nodup → m.Nodup → (∀ x, x ∈ l ↔ x ∈ m) → l.length = m.length
  | [], m, _, _, h => by
    cases m with
    | nil => rfl
    | cons x r => exact absurd ((h x).mpr (List.mem_cons_self ..)) (by simp)
  | a :: r, m, hl, hm, h => by
    obtain ⟨h1, h2⟩ := List.nodup_cons.mp hl
    have ha : a ∈ m := (h a).mp (List.mem_cons_self ..)
    have e : (m.erase a).length = m.length - 1 := List.length_erase_of_mem ha
    have hp : 0 < m.length := List.length_pos_of_mem ha
    have ih := len_same (l := r) (m := m.erase a) h2 (List.Nodup.erase a hm) fun x => by
      rw [List.Nodup.mem_erase_iff hm]
      constructor
      · intro hx
        exact ⟨fun z => h1 (z ▸ hx), (h x).mp (List.mem_cons_of_mem _ hx)⟩
      · rintro ⟨n, hx⟩
        rcases List.mem_cons.mp ((h x).mpr hx) with z | z
        · exact absurd z n
        · exact z
    rw [List.length_cons, ih, e]
    omega
section
variable {D : Panel}
/-- the sides of a square and the places at it -/
def adj (D : Panel) (s p : Nat) : Bool := (D.squaresAt p).1 == s || (D.squaresAt p).2 == s
theorem squares_ne {p : Nat} (hw : 1 ≤ D.wide) : (D.squaresAt p).1 ≠ (D.squaresAt p).2 := by
  unfold Panel.squaresAt
  split
  · dsimp only; omega
  · dsimp only; omega
theorem at_down {y x : Nat} (hy : y + 1 < D.high) (hx : x < D.wide) : D.squaresAt (D.uprights + (y * D.wide + x)) = (y * D.wide + x, (y + 1) * D.wide + x) ∧ D.sideAt (D.uprights + (y * D.wide + x)) = 2 ∧ D.uprights + (y * D.wide + x) < D.count := by
  have hc : y * D.wide + x < D.wide * (D.high - 1) := by
    have : (y + 1) * D.wide ≤ (D.high - 1) * D.wide := Nat.mul_le_mul_right _ (by omega)
    rw [Nat.add_mul, Nat.one_mul, Nat.mul_comm (D.high - 1)] at this
    omega
  refine ⟨?_, ?_, ?_⟩
  · unfold Panel.squaresAt
    rw [if_neg (by omega), Nat.add_sub_cancel_left, Nat.add_mul, Nat.one_mul]
    congr 1
    omega
  · unfold Panel.sideAt
    rw [if_neg (by omega)]
  · unfold Panel.count
    omega
/-- the squares at a side's place -/
theorem at_place {s k t : Nat} (hs : s < D.squares) (hk : k < 4) (h : D.beyond s k = some t) : D.placeOf s k < D.count ∧ D.squaresAt (D.placeOf s k) = (if k = 1 ∨ k = 2 then (s, t) else (t, s)) ∧ D.sideAt (D.placeOf s k) = if k % 2 = 1 then 1 else 2 := by
  obtain ⟨r, c, rfl, hc, hr⟩ := sq_split D hs
  rw [rc_beyond hc hr] at h
  rw [rc_place hc]
  have cs : k = 0 ∨ k = 1 ∨ k = 2 ∨ k = 3 := by omega
  rcases cs with rfl | rfl | rfl | rfl
  · rw [if_pos rfl] at h
    by_cases z : 0 < r
    · rw [if_pos z] at h
      cases h
      obtain ⟨a, b, d⟩ := at_down (D := D) (y := r - 1) (x := c) (by omega) hc
      rw [show r - 1 + 1 = r by omega] at a
      exact ⟨d, a, b⟩
    · rw [if_neg z] at h; cases h
  · rw [if_neg (by decide), if_pos rfl] at h
    by_cases z : c + 1 < D.wide
    · rw [if_pos z] at h
      cases h
      obtain ⟨a, b, d⟩ := at_left (D := D) (y := r) (x := c) hr z
      exact ⟨d, a, b⟩
    · rw [if_neg z] at h; cases h
  · rw [if_neg (by decide), if_neg (by decide), if_pos rfl] at h
    by_cases z : r + 1 < D.high
    · rw [if_pos z] at h
      cases h
      obtain ⟨a, b, d⟩ := at_down (D := D) (y := r) (x := c) z hc
      exact ⟨d, a, b⟩
    · rw [if_neg z] at h; cases h
  · rw [if_neg (by decide), if_neg (by decide), if_neg (by decide)] at h
    by_cases z : 0 < c
    · rw [if_pos z] at h
      cases h
      obtain ⟨a, b, d⟩ := at_left (D := D) (y := r) (x := c - 1) hr (by omega)
      rw [show r * D.wide + (c - 1) + 1 = r * D.wide + c by omega] at a
      exact ⟨d, a, b⟩
    · rw [if_neg z] at h; cases h
/-- a place is on its first square's side -/
theorem place_back {p : Nat} (hw : 1 ≤ D.wide) (hp : p < D.count) : D.beyond (D.squaresAt p).1 (D.sideAt p) = some (D.squaresAt p).2 ∧ D.placeOf (D.squaresAt p).1 (D.sideAt p) = p := by
  by_cases c : p < D.uprights
  · have w2 : 0 < D.wide - 1 := by
      unfold Panel.uprights at c
      rcases Nat.eq_zero_or_pos (D.wide - 1) with z | z
      · rw [z, Nat.zero_mul] at c; omega
      · exact z
    have hr : p / (D.wide - 1) < D.high := Nat.div_lt_of_lt_mul c
    have hc : p % (D.wide - 1) < D.wide - 1 := Nat.mod_lt _ w2
    have e : p = p / (D.wide - 1) * (D.wide - 1) + p % (D.wide - 1) := by rw [Nat.mul_comm]; exact (Nat.div_add_mod ..).symm
    obtain ⟨a, b, _⟩ := at_left (D := D) (y := p / (D.wide - 1)) (x := p % (D.wide - 1)) hr (by omega)
    rw [← e] at a b
    rw [a, b]
    dsimp only
    rw [rc_beyond (by omega) hr, rc_place (by omega), if_neg (by decide), if_pos rfl, if_pos (by omega), if_pos rfl]
    exact ⟨rfl, e.symm⟩
  · unfold Panel.count at hp
    have hq : p - D.uprights < D.wide * (D.high - 1) := by omega
    have hr : (p - D.uprights) / D.wide < D.high - 1 := Nat.div_lt_of_lt_mul hq
    have hr1 : (p - D.uprights) / D.wide + 1 < D.high := Nat.add_lt_of_lt_sub hr
    have hc : (p - D.uprights) % D.wide < D.wide := Nat.mod_lt _ (by omega)
    have e : p - D.uprights = (p - D.uprights) / D.wide * D.wide + (p - D.uprights) % D.wide := by rw [Nat.mul_comm]; exact (Nat.div_add_mod ..).symm
    obtain ⟨a, b, _⟩ := at_down (D := D) (y := (p - D.uprights) / D.wide) (x := (p - D.uprights) % D.wide) hr1 hc
    rw [← e, show D.uprights + (p - D.uprights) = p by omega] at a b
    rw [a, b]
    dsimp only
    have e2 : p - D.uprights = (p - D.uprights) / D.wide * D.wide + (p - D.uprights) % D.wide := e
    have g1 := rc_beyond (D := D) (k := 2) hc (show (p - D.uprights) / D.wide < D.high from Nat.lt_of_succ_lt hr1)
    have g2 := rc_place (D := D) (r := (p - D.uprights) / D.wide) (k := 2) hc
    rw [← e2] at g1 g2
    rw [g1, g2, if_neg (by decide), if_neg (by decide), if_pos rfl, if_pos hr1, if_neg (by decide), if_neg (by decide), if_pos rfl]
    exact ⟨rfl, by omega⟩
theorem adj_iff {s p : Nat} (hw : 1 ≤ D.wide) (hs : s < D.squares) (hp : p < D.count) : adj D s p = true ↔ ∃ k, k < 4 ∧ (D.beyond s k).isSome = true ∧ D.placeOf s k = p := by
  obtain ⟨b1, b2⟩ := place_back hw hp
  have hsq := squaresAt_lt hw hp
  have hsd : D.sideAt p < 4 := sideAt_lt D p
  unfold adj
  rw [Bool.or_eq_true, beq_iff_eq, beq_iff_eq]
  constructor
  · rintro (h | h)
    · refine ⟨D.sideAt p, hsd, ?_, ?_⟩
      · rw [← h, b1]; rfl
      · rw [← h, b2]
    · obtain ⟨_, c2, c3, _⟩ := beyond_back hsq.1 hsd b1
      refine ⟨(D.sideAt p + 2) % 4, Nat.mod_lt _ (by decide), ?_, ?_⟩
      · rw [← h, c2]; rfl
      · rw [← h, c3, b2]
  · rintro ⟨k, hk, hb, e⟩
    obtain ⟨t, ht⟩ := Option.isSome_iff_exists.mp hb
    obtain ⟨_, a, _⟩ := at_place hs hk ht
    rw [e] at a
    rw [a]
    split
    · exact .inl rfl
    · exact .inr rfl
theorem place_inj {s k j : Nat} (hs : s < D.squares) (hk : k < 4) (hj : j < 4) (bk : (D.beyond s k).isSome = true) (bj : (D.beyond s j).isSome = true) (e : D.placeOf s k = D.placeOf s j) : k = j := by
  obtain ⟨t, ht⟩ := Option.isSome_iff_exists.mp bk
  obtain ⟨u, hu⟩ := Option.isSome_iff_exists.mp bj
  obtain ⟨_, a1, a2⟩ := at_place hs hk ht
  obtain ⟨_, b1, b2⟩ := at_place hs hj hu
  have nt := (beyond_back hs hk ht).2.2.2
  have nu := (beyond_back hs hj hu).2.2.2
  rw [e] at a1 a2
  rw [a1] at b1
  rw [a2] at b2
  have ck : k = 0 ∨ k = 1 ∨ k = 2 ∨ k = 3 := by omega
  have cj : j = 0 ∨ j = 1 ∨ j = 2 ∨ j = 3 := by omega
  rcases ck with rfl | rfl | rfl | rfl <;> rcases cj with rfl | rfl | rfl | rfl <;> simp at b1 b2 ⊢
  all_goals (first | omega | (exact absurd b1.1 (by omega)) | (exact absurd b1.2 (by omega)))
/-- how many sides of a square: by its sides, by the places at it -/
theorem sides_places (hw : 1 ≤ D.wide) {s : Nat} (hs : s < D.squares) (f : Nat → Bool) : ((List.range 4).filter fun k => (D.beyond s k).isSome && f (D.placeOf s k)).length = ((List.range D.count).filter fun p => adj D s p && f p).length := by
  have e1 : ((List.range 4).filter fun k => (D.beyond s k).isSome && f (D.placeOf s k)).length = (((List.range 4).filter fun k => (D.beyond s k).isSome && f (D.placeOf s k)).map (D.placeOf s)).length := (List.length_map _).symm
  rw [e1]
  refine len_same ?_ (nodup_filter_range _ _) fun p => ?_
  · refine nodup_map (nodup_filter_range _ _) fun x hx y hy e => ?_
    rw [List.mem_filter, List.mem_range, Bool.and_eq_true] at hx hy
    exact place_inj hs hx.1 hy.1 hx.2.1 hy.2.1 e
  · rw [List.mem_map, List.mem_filter, List.mem_range, Bool.and_eq_true]
    constructor
    · rintro ⟨k, hk, rfl⟩
      rw [List.mem_filter, List.mem_range, Bool.and_eq_true] at hk
      obtain ⟨t, ht⟩ := Option.isSome_iff_exists.mp hk.2.1
      have hp := (at_place hs hk.1 ht).1
      exact ⟨hp, (adj_iff hw hs hp).mpr ⟨k, hk.1, hk.2.1, rfl⟩, hk.2.2⟩
    · rintro ⟨hp, ha, hf⟩
      obtain ⟨k, hk, hb, rfl⟩ := (adj_iff hw hs hp).mp ha
      refine ⟨k, ?_, rfl⟩
      rw [List.mem_filter, List.mem_range, Bool.and_eq_true]
      exact ⟨hk, hb, hf⟩
end
end Il

namespace Il
open Plait PlaitP
/-! ### changes, by whole numbers and by bits -/
def chI (D : Panel) (ms : List Int) (p : Nat) : Int := if D.state p = 0 then PySem.Builtin.bitXor (ms.getD (D.squaresAt p).1 0) (ms.getD (D.squaresAt p).2 0) else if D.state p = 2 then (ms.drop D.squares).getD (D.bars.idxOf p) 0 else 0
def arI (D : Panel) (ms : List Int) (n s : Nat) : Int := ((List.range n).filter (adj D s)).foldl (fun acc p => PySem.Builtin.bitXor acc (chI D ms p)) 0
def bsI (D : Panel) (ms : List Int) (p : Nat) : Int := PySem.Builtin.bitXor (ms.getD (D.squaresAt p).1 0) (ms.getD (D.squaresAt p).2 0)
theorem arI_succ (D : Panel) (ms : List Int) (n s : Nat) : arI D ms (n + 1) s = if adj D s n = true then PySem.Builtin.bitXor (arI D ms n s) (chI D ms n) else arI D ms n s := by
  unfold arI
  rw [List.range_succ, List.filter_append, List.foldl_append, List.filter_cons, List.filter_nil]
  split <;> rfl
section
variable (D : Panel) (w : List Bool)
/-- odd -/
def odd (n : Nat) : Bool := n % 2 != 0
theorem odd_succ (n : Nat) : odd (n + 1) = (odd n != true) := by
  unfold odd
  rcases Nat.mod_two_eq_zero_or_one n with h | h
  · have : (n + 1) % 2 = 1 := by omega
    rw [h, this]; rfl
  · have : (n + 1) % 2 = 0 := by omega
    rw [h, this]; rfl
end
end Il

namespace Il
open Plait PlaitP
/-! ### a place changed -/
/-! ### breaks read -/
end Il

set_option linter.all false
set_option maxRecDepth 100000
namespace Il
open PySem PySem.Spec PyProof.Rows L2 L3
end Il

set_option linter.all false
set_option maxRecDepth 100000
namespace Il
open PySem PySem.Spec PyProof.Rows L2 L3
end Il

set_option linter.all false
set_option maxRecDepth 100000
namespace Il
open PySem PySem.Spec PyProof.Rows L2 L3
/-! ### a dict of bits by places -/
theorem merge_new : ∀ {more acc : List (Key × V)}, (more.map fun e => e.1).Nodup → (∀ e ∈ more, valV acc e.1 = none) → mergeK acc more = acc ++ more
  | [], acc, _, _ => by
    show acc = acc ++ []
    rw [List.append_nil]
  | e :: r, acc, hn, hv => by
    rw [List.map_cons] at hn
    obtain ⟨h1, h2⟩ := List.nodup_cons.mp hn
    show mergeK (putK acc e.1 e.2) r = _
    rw [putK_new _ (hv e (List.mem_cons_self ..))]
    rw [merge_new h2]
    · rw [List.append_assoc]; rfl
    · intro x hx
      have hvx := hv x (List.mem_cons_of_mem _ hx)
      rw [valV_snoc _ _ _ acc (hv e (List.mem_cons_self ..)), if_neg]
      · exact hvx
      · intro z
        exact h1 (z ▸ List.mem_map.mpr ⟨x, hx, rfl⟩)
theorem R_dgetP {H : Hp} {P : V → Prop} {p : Addr} {kvs : List (Key × V)} {n : Int} {v : V} (h : H p = some (.dK kvs)) (e : valV kvs (Sum.inl n) = some v) (q : P v) : ∃ a v, V.ref p = .ref a ∧ DGet H a (.int n) (some v) ∧ P v := ⟨p, v, rfl, e ▸ DGet.k (k := Sum.inl n) h, q⟩
end Il

set_option linter.all false
set_option maxRecDepth 100000
namespace Il
open PySem PySem.Spec PyProof.Rows L2 L3
/-! ### a dict of whole numbers by places -/
def intsD (ks : List Nat) (ns : List Int) : List (Key × V) := (ks.zip ns).map fun e => (Sum.inl (e.1 : Int), V.int e.2)
theorem intsD_keys {ks : List Nat} {ns : List Int} (h : ks.length = ns.length) : (intsD ks ns).map (fun e => kV e.1) = (ofN ks).map V.int := by
  unfold intsD
  rw [List.map_map]
  have : ((fun (e : Key × V) => kV e.1) ∘ fun (e : Nat × Int) => ((Sum.inl (e.1 : Int) : Key), V.int e.2)) = (fun (n : Nat) => V.int (n : Int)) ∘ Prod.fst := rfl
  rw [this, ← List.map_map, List.map_fst_zip (by omega), List.map_map]
  rfl
theorem intsD_vals {ks : List Nat} {ns : List Int} (h : ks.length = ns.length) : (intsD ks ns).map (fun e => e.2) = ns.map V.int := by
  unfold intsD
  rw [List.map_map]
  have : ((fun (e : Key × V) => e.2) ∘ fun (e : Nat × Int) => ((Sum.inl (e.1 : Int) : Key), V.int e.2)) = V.int ∘ Prod.snd := rfl
  rw [this, ← List.map_map, List.map_snd_zip (by omega)]
theorem intsD_merge {ks : List Nat} {ns : List Int} (h : ks.length = ns.length) (hn : ks.Nodup) : mergeK [] (intsD ks ns) = intsD ks ns := by
  rw [merge_new (acc := []) ?_ fun e _ => rfl, List.nil_append]
  unfold intsD
  rw [List.map_map]
  have : ((fun (e : Key × V) => e.1) ∘ fun (e : Nat × Int) => ((Sum.inl (e.1 : Int) : Key), V.int e.2)) = (fun (n : Nat) => (Sum.inl (n : Int) : Key)) ∘ Prod.fst := rfl
  rw [this, ← List.map_map, List.map_fst_zip (by omega)]
  unfold List.Nodup
  rw [List.pairwise_map]
  refine List.Pairwise.imp (fun {x y : Nat} (h : x ≠ y) (z : (Sum.inl (x : Int) : Key) = Sum.inl (y : Int)) => h ?_) (show List.Pairwise (fun a b => a ≠ b) ks from hn)
  have := Sum.inl.inj z
  omega
theorem intsD_val : ∀ {ks : List Nat} {ns : List Int}, ks.length = ns.length → ∀ n : Nat, valV (intsD ks ns) (Sum.inl (n : Int)) = if n ∈ ks then some (.int (ns.getD (ks.idxOf n) 0)) else none
  | [], [], _, n => by simp [intsD, valV]
  | k :: ks, c :: ns, h, n => by
    have ih := intsD_val (ks := ks) (ns := ns) (by simpa using h) n
    show valV (((Sum.inl (k : Int) : Key), V.int c) :: intsD ks ns) _ = _
    by_cases e : k = n
    · subst e
      rw [valV_pos rfl, if_pos (List.mem_cons_self ..), List.idxOf_cons_self]
      rfl
    · rw [valV_neg (fun z => e (by have := Sum.inl.inj z; omega)), ih, List.idxOf_cons, beq_false_of_ne e, cond_false]
      by_cases m : n ∈ ks
      · rw [if_pos m, if_pos (List.mem_cons_of_mem _ m)]
        rfl
      · rw [if_neg m, if_neg]
        intro z
        rcases List.mem_cons.mp z with z | z
        · exact e z.symm
        · exact m z
abbrev NM (D : Plait.Panel) : Nat := D.squares + D.bars.length
def sp_count_marks (K : PySem.W.Frag) : Sp := fun vs H Q _ => ∃ (a : Addr) (b : List Int), vs = [.ref a] ∧ (PAt K H a b ∧ ∀ H', Same H H' → Q (.int (NM (panel b) : Nat)) H')
theorem ln_count_marks {K : PySem.W.Frag} {vs : List V} {H : Hp} {Q : VK} {E : XK} (h : sp_count_marks K vs H Q E) : vs.length = 1 := by obtain ⟨_, _, rfl, _⟩ := h; rfl
def sp_list_changes (K : PySem.W.Frag) : Sp := fun vs H Q _ => ∃ (a m : Addr) (b ms : List Int), vs = [.ref a, .ref m] ∧ (PAt K H a b ∧ SqL K H m (ms.map V.int) ∧ ms.length = NM (panel b) ∧ NewL Q H ((List.range (panel b).count).map (chI (panel b) ms)))
theorem ln_list_changes {K : PySem.W.Frag} {vs : List V} {H : Hp} {Q : VK} {E : XK} (h : sp_list_changes K vs H Q E) : vs.length = 2 := by obtain ⟨_, _, _, _, rfl, _⟩ := h; rfl
def sp_add_around (K : PySem.W.Frag) : Sp := fun vs H Q _ => ∃ (a m : Addr) (b ms : List Int), vs = [.ref a, .ref m] ∧ (PAt K H a b ∧ SqL K H m (ms.map V.int) ∧ ms.length = NM (panel b) ∧ NewL Q H ((List.range (panel b).squares).map (arI (panel b) ms (panel b).count)))
theorem ln_add_around {K : PySem.W.Frag} {vs : List V} {H : Hp} {Q : VK} {E : XK} (h : sp_add_around K vs H Q E) : vs.length = 2 := by obtain ⟨_, _, _, _, rfl, _⟩ := h; rfl
def sp_add_beside (K : PySem.W.Frag) : Sp := fun vs H Q _ => ∃ (a m : Addr) (b ms : List Int), vs = [.ref a, .ref m] ∧ (PAt K H a b ∧ SqL K H m (ms.map V.int) ∧ ms.length = NM (panel b) ∧ NewL Q H ((panel b).bars.map (bsI (panel b) ms)))
theorem ln_add_beside {K : PySem.W.Frag} {vs : List V} {H : Hp} {Q : VK} {E : XK} (h : sp_add_beside K vs H Q E) : vs.length = 2 := by obtain ⟨_, _, _, _, rfl, _⟩ := h; rfl
def t_count_marks (K : PySem.W.Frag) : TS :=
  (tRet (tOp (rI0 fun i j => .int (i + j)) (tOwn (sp_count_squares K) (tCons (tVar 0) tNil)) (tCB (rLen K) (tCons (tOwn (sp_list_places_with K) (tCons (tC (.int 2)) (tCons (tVar 0) tNil))) tNil))))
def t_list_changes (K : PySem.W.Frag) : TS :=
  (tSeq (tAsg (tDZ K (tCons (tOwn (sp_list_places_with K) (tCons (tC (.int 2)) (tCons (tVar 0) tNil))) (tCons (tSl (rSlL K) (tVar 1) (tPart (tOwn (sp_count_squares K) (tCons (tVar 0) tNil))) tNoPart) tNil))) (gName 2))
    (tSeq (tAsg (tLst tNil) (gName 3))
    (tSeq (tFor (iEnum K (tCons (tSl (rSlL K) (tVar 0) (tPart (tC (.int 6))) tNoPart) tNil)) (gTup K 2 (gCons (gName 4) (gCons (gName 5) gNil))) (tSeq (tAsg (tOwn (sp_find_squares K) (tCons (tVar 4) (tCons (tOp (rIxL K) (tVar 0) (tC (.int 4))) (tCons (tOp (rIxL K) (tVar 0) (tC (.int 5))) tNil)))) (gName 6))
    (tIfS (tTest (tOp rEq (tVar 5) (tC (.int 0)))) (tDrop (tBM K "list" (rAppend) (tVar 3) (tCons (tOp (rI0 fun i j => .int (Builtin.bitXor i j)) (tOp (rIxL K) (tVar 1) (tOp (rIxT K) (tVar 6) (tC (.int 0)))) (tOp (rIxL K) (tVar 1) (tOp (rIxT K) (tVar 6) (tC (.int 1))))) tNil))) (tIfS (tTest (tOp rEq (tVar 5) (tC (.int 2)))) (tDrop (tBM K "list" (rAppend) (tVar 3) (tCons (tDGet (tVar 2) (tVar 4)) tNil))) (tDrop (tBM K "list" (rAppend) (tVar 3) (tCons (tC (.int 0)) tNil)))))))
    (tRet (tVar 3)))))
def t_add_around (K : PySem.W.Frag) : TS :=
  (tSeq (tAsg (tOp rRep (tLst (tCons (tC (.int 0)) tNil)) (tOwn (sp_count_squares K) (tCons (tVar 0) tNil))) (gName 2))
    (tSeq (tFor (iEnum K (tCons (tOwn (sp_list_changes K) (tCons (tVar 0) (tCons (tVar 1) tNil))) tNil)) (gTup K 2 (gCons (gName 3) (gCons (gName 4) gNil))) (tFor (iTup K (tOwn (sp_find_squares K) (tCons (tVar 3) (tCons (tOp (rIxL K) (tVar 0) (tC (.int 4))) (tCons (tOp (rIxL K) (tVar 0) (tC (.int 5))) tNil))))) (gName 5) (tAsg (tOp (rI0 fun i j => .int (Builtin.bitXor i j)) (tOp (rIxL K) (tVar 2) (tVar 5)) (tVar 4)) (gSub (tVar 2) (tVar 5) rSetL))))
    (tRet (tVar 2))))
def t_add_beside (K : PySem.W.Frag) : TS :=
  (tSeq (tAsg (tLst tNil) (gName 2))
    (tSeq (tFor (iList K (tOwn (sp_list_places_with K) (tCons (tC (.int 2)) (tCons (tVar 0) tNil)))) (gName 3) (tSeq (tAsg (tOwn (sp_find_squares K) (tCons (tVar 3) (tCons (tOp (rIxL K) (tVar 0) (tC (.int 4))) (tCons (tOp (rIxL K) (tVar 0) (tC (.int 5))) tNil)))) (gName 4))
    (tDrop (tBM K "list" (rAppend) (tVar 2) (tCons (tOp (rI0 fun i j => .int (Builtin.bitXor i j)) (tOp (rIxL K) (tVar 1) (tOp (rIxT K) (tVar 4) (tC (.int 0)))) (tOp (rIxL K) (tVar 1) (tOp (rIxT K) (tVar 4) (tC (.int 1))))) tNil)))))
    (tRet (tVar 2))))
theorem bars_le {K : PySem.W.Frag} {H : Hp} {a : Addr} {b : List Int} (hb : PAt K H a b) : (panel b).bars.length ≤ 112 := Nat.le_trans (List.length_filter_le _ _) (by rw [List.length_range]; exact hb.cnt)
theorem sq_le {K : PySem.W.Frag} {H : Hp} {a : Addr} {b : List Int} (hb : PAt K H a b) : (panel b).squares ≤ 64 := by
  unfold Plait.Panel.squares
  exact Nat.mul_le_mul hb.wide8 hb.high8
theorem bars_mem {D : Plait.Panel} {p : Nat} : p ∈ D.bars ↔ p < D.count ∧ D.state p = 2 := by
  unfold Plait.Panel.bars
  rw [List.mem_filter, List.mem_range, beq_iff_eq]
theorem rd_count_marks {K : PySem.W.Frag} {vs : List V} {H : Hp} {Q : VK} {E : XK} (h : sp_count_marks K vs H Q E) : t_count_marks K { nx := fun _ H' => Q .non H', rt := Q } (start ["b"] vs) H := by
  obtain ⟨a, b, rfl, ⟨hb, q⟩⟩ := h
  show t_count_marks K _ [some (.ref a)] H
  unfold t_count_marks
  walk_at "go"
  refine ⟨a, b, rfl, hb, ?_⟩
  walk_at "go"
  refine ⟨2, a, b, rfl, hb, fun H1 l1 s1 n1 e1 => ?_⟩
  walk_at "go"
  rw [List.length_map]
  have eNM : NM (panel b) = (panel b).squares + (panel b).bars.length := rfl
  have := q _ s1
  rw [show ((NM (panel b) : Nat) : Int) = (((panel b).squares : Nat) : Int) + (((placesWith (panel b) 2).length : Nat) : Int) by rw [← bars_with]; omega] at this
  exact this
theorem rd_list_changes {K : PySem.W.Frag} {vs : List V} {H : Hp} {Q : VK} {E : XK} (h : sp_list_changes K vs H Q E) : t_list_changes K { nx := fun _ H' => Q .non H', rt := Q } (start ["b", "m", "of_breaks", "changes", "p", "z", "pair"] vs) H := by
  obtain ⟨a, m, b, ms, rfl, ⟨hb, hm, hl, q⟩⟩ := h
  show t_list_changes K _ [some (.ref a), some (.ref m), none, none, none, none, none] H
  unfold t_list_changes
  walk_at "go"
  have eNM : NM (panel b) = (panel b).squares + (panel b).bars.length := rfl
  have hq := hb.at_.sq
  have R := hb.right
  have hcp := count_of R
  have hlen := R.len
  obtain ⟨_, w1, w8, h1, h8, _, le6, _⟩ := R
  have hsq := sq_le hb
  have hbr := bars_le hb
  have hcn := hb.cnt
  refine ⟨2, a, b, rfl, hb, fun H1 l1 s1 n1 e1 => ?_⟩
  walk_at "go"
  refine ⟨a, b, rfl, hb.same s1, ?_⟩
  have hm1 := s1.seq hm
  walk_at "go"
  rename_i l2 H2 n2 s2 e2
  rw [cut_from (by omega), Int.toNat_natCast] at e2
  have elen : (placesWith (panel b) 2).length = (ms.drop (panel b).squares).length := by
    rw [List.length_drop, ← bars_with]
    omega
  refine ⟨l1, l2, intsD (placesWith (panel b) 2) (ms.drop (panel b).squares), rfl, SqL.of (by rw [s2 _ _ e1, intsD_keys elen]), SqL.of (by rw [e2, intsD_vals elen]), ?_⟩
  rw [intsD_merge elen (by unfold placesWith; exact Plait.nodup_filter_range _ _)]
  walk_at "go"
  rename_i l3 H3 n3 s3 e3 l4 H4 n4 s4 e4
  have s04 := ((s1.trans s2).trans s3).trans s4
  have hq4 : SqL K H4 a (b.map V.int) := s04.seq hq
  walk_at "go"
  rename_i l5 H5 n5 s5 e5
  rw [cut_from (by decide)] at e5
  have e6 : (6 : Int).toNat = 6 := rfl
  rw [e6] at e5
  have s05 := s04.trans s5
  have hn4 : H l4 = none := seq_of ((s1.trans s2).trans s3) n4
  have n54 : l5 ≠ l4 := fun z => by rw [z, e4] at n5; cases n5
  have n34 : l3 ≠ l4 := fun z => by rw [← z, e3] at n4; cases n4
  have epl := hb.places
  walk_at "go"
  refine loop_enum (xs := (b.drop 6).map V.int) (fun k σ H' => ∃ v4 v5 v6, σ = [some (.ref a), some (.ref m), some (.ref l3), some (.ref l4), v4, v5, v6] ∧ Same H H' ∧ H' l5 = some (.lst ((b.drop 6).map V.int)) ∧ H' l3 = some (.dK (intsD (placesWith (panel b) 2) (ms.drop (panel b).squares))) ∧ H' l4 = some (.lst (((List.range k).map (chI (panel b) ms)).map V.int)))
    ⟨_, _, _, rfl, s05, e5, s5 _ _ (s4 _ _ e3), s5 _ _ e4⟩ (fun k σ H' _ ⟨_, _, _, _, _, z, _⟩ => SqL.of z) ?_ ?_
  · rintro k x σ H' T hx ⟨v4, v5, v6, rfl, s, el5, el3, el4⟩ hT
    obtain ⟨z, hz, rfl⟩ : ∃ z : Int, (b.drop 6)[k]? = some z ∧ V.int z = x := by
      rw [List.getElem?_map] at hx
      exact Option.map_eq_some_iff.mp hx
    have hk : k < (panel b).count := by have := (List.getElem?_eq_some_iff.mp hz).1; omega
    have hst := state_nat hb.at_.byt hb.right hk
    have hle := state_le hb.at_.byt hb.right hk
    have ez : z = ((panel b).state k : Nat) := by
      rw [← hst, List.getD_eq_getElem?_getD, ← List.getElem?_drop, hz]
      rfl
    subst ez
    have sT : Same H' (upd H' T (.tup [.int (k : Nat), .int ((panel b).state k : Nat)])) := same_up hT
    have sHT := s.trans sT
    have hqT : SqL K (upd H' T (.tup [.int (k : Nat), .int ((panel b).state k : Nat)])) a (b.map V.int) := sHT.seq hq
    walk_at "go"
    refine ⟨_, _, _, rfl, by omega, by omega, by omega, by omega, fun H6 l6 s6 e6' => ?_⟩
    have es := squaresAt_of hb.right (p := (k : Int)) (by omega) _ rfl
    rw [Int.toNat_natCast] at es
    rw [← es.1, ← es.2] at e6'
    have hsl := Plait.squaresAt_lt hb.w1 hk
    have sH6 := sHT.trans s6
    have hm6 : SqL K H6 m (ms.map V.int) := sH6.seq hm
    have el3' := s6 _ _ (sT _ _ el3)
    have el4' := s6 _ _ (sT _ _ el4)
    have el5' := s6 _ _ (sT _ _ el5)
    have fin : ∀ v : Int, v = chI (panel b) ms k → (upd H6 l4 (.lst (((List.range k).map (chI (panel b) ms)).map V.int ++ [V.int v]))) l4 = some (.lst (((List.range (k + 1)).map (chI (panel b) ms)).map V.int)) := by
      rintro v rfl
      rw [upd_same, List.range_succ]
      simp only [List.map_append, List.map_cons, List.map_nil]
    have hz4 : ((((List.range k).map (chI (panel b) ms)).map V.int).length < sizeLine) := by rw [sizeLine_eq, List.length_map, List.length_map, List.length_range]; omega
    walk_at "go"
    walk_at "if"
    · rename_i c
      walk_at "go"
      refine ⟨ty_list (SqL.of el4'), ?_⟩
      walk_at "go"
      refine R_ixT (SqT.of e6') (v := .int _) rfl ?_
      walk_at "go"
      refine R_ixT (SqT.of e6') (v := .int _) rfl ?_
      walk_at "go"
      refine R_append el4' hz4 ?_
      walk_at "go"
      refine ⟨_, _, _, rfl, same_set sH6 hn4, ?_, ?_, fin _ ?_⟩
      · rw [upd_ne n54]; exact el5'
      · rw [upd_ne n34]; exact el3'
      · unfold chI
        rw [if_pos (by omega), Int.toNat_natCast, Int.toNat_natCast]
    rename_i c
    walk_at "go"
    walk_at "if"
    · rename_i c2
      have hbm : k ∈ placesWith (panel b) 2 := by rw [← bars_with]; exact bars_mem.mpr ⟨hk, by omega⟩
      walk_at "go"
      refine ⟨ty_list (SqL.of el4'), ?_⟩
      walk_at "go"
      refine R_dgetP el3' (by rw [intsD_val elen, if_pos hbm]) ?_
      walk_at "go"
      refine R_append el4' hz4 ?_
      walk_at "go"
      refine ⟨_, _, _, rfl, same_set sH6 hn4, ?_, ?_, fin _ ?_⟩
      · rw [upd_ne n54]; exact el5'
      · rw [upd_ne n34]; exact el3'
      · unfold chI
        rw [if_neg (by omega), if_pos (by omega), bars_with]
    rename_i c2
    walk_at "go"
    refine ⟨ty_list (SqL.of el4'), ?_⟩
    walk_at "go"
    refine R_append el4' hz4 ?_
    walk_at "go"
    refine ⟨_, _, _, rfl, same_set sH6 hn4, ?_, ?_, fin _ ?_⟩
    · rw [upd_ne n54]; exact el5'
    · rw [upd_ne n34]; exact el3'
    · unfold chI
      rw [if_neg (by omega), if_neg (by omega)]
  · rintro σ H' ⟨v4, v5, v6, rfl, s, el5, el3, el4⟩
    rw [List.length_map, epl] at el4
    walk_at "go"
    exact q _ _ s hn4 el4
theorem rd_add_around {K : PySem.W.Frag} {vs : List V} {H : Hp} {Q : VK} {E : XK} (h : sp_add_around K vs H Q E) : t_add_around K { nx := fun _ H' => Q .non H', rt := Q } (start ["b", "m", "around", "p", "change", "s"] vs) H := by
  obtain ⟨a, m, b, ms, rfl, ⟨hb, hm, hl, q⟩⟩ := h
  show t_add_around K _ [some (.ref a), some (.ref m), none, none, none, none] H
  unfold t_add_around
  walk_at "go"
  rename_i l1 H1 n1 s1 e1
  have eNM : NM (panel b) = (panel b).squares + (panel b).bars.length := rfl
  have hq := hb.at_.sq
  have R := hb.right
  have hcp := count_of R
  obtain ⟨_, w1, w8, h1, h8, _, le6, _⟩ := R
  have hsq := sq_le hb
  have hcn := hb.cnt
  refine ⟨a, b, rfl, hb.same s1, ?_⟩
  walk_at "go"
  refine R_rep e1 (by omega) (by omega) ?_
  walk_at "go"
  rename_i l2 H2 n2 s2 e2
  have s02 := s1.trans s2
  rw [Int.toNat_natCast] at e2
  refine ⟨a, m, b, ms, rfl, hb.same s02, s02.seq hm, hl, fun H3 l3 s3 n3 e3 => ?_⟩
  have s03 := s02.trans s3
  have hn2 : H l2 = none := seq_of s1 n2
  have n32 : l3 ≠ l2 := fun z => by rw [z, e2] at n3; cases n3
  walk_at "go"
  refine loop_enum (xs := ((List.range (panel b).count).map (chI (panel b) ms)).map V.int) (fun k σ H' => ∃ v3 v4 v5, σ = [some (.ref a), some (.ref m), some (.ref l2), v3, v4, v5] ∧ Same H H' ∧ H' l3 = some (.lst (((List.range (panel b).count).map (chI (panel b) ms)).map V.int)) ∧ H' l2 = some (.lst (((List.range (panel b).squares).map (arI (panel b) ms k)).map V.int)))
    ⟨_, _, _, rfl, s03, e3, ?_⟩ (fun k σ H' _ ⟨_, _, _, _, _, z, _⟩ => SqL.of z) ?_ ?_
  · rw [s3 _ _ e2]
    congr 2
    have : (List.range (panel b).squares).map (arI (panel b) ms 0) = List.replicate (panel b).squares 0 := by
      have : ∀ n : Nat, (List.range n).map (arI (panel b) ms 0) = List.replicate n 0 := by
        intro n
        induction n with
        | zero => rfl
        | succ n ih => rw [List.range_succ, List.map_append, ih, List.replicate_succ']; rfl
      exact this _
    rw [this, List.map_replicate]
  · rintro k x σ H' T hx ⟨v3, v4, v5, rfl, s, el3, el2⟩ hT
    have hk : k < (panel b).count := by
      have := (List.getElem?_eq_some_iff.mp hx).1
      simpa using this
    have ex : x = .int (chI (panel b) ms k) := by
      rw [List.getElem?_map, List.getElem?_map, List.getElem?_range hk] at hx
      exact (Option.some.inj hx).symm
    subst ex
    have sT : Same H' (upd H' T (.tup [.int (k : Nat), .int (chI (panel b) ms k)])) := same_up hT
    have sHT := s.trans sT
    have hqT : SqL K (upd H' T (.tup [.int (k : Nat), .int (chI (panel b) ms k)])) a (b.map V.int) := sHT.seq hq
    walk_at "go"
    refine ⟨_, _, _, rfl, by omega, by omega, by omega, by omega, fun H6 l6 s6 e6 => ?_⟩
    have es := squaresAt_of hb.right (p := (k : Int)) (by omega) _ rfl
    rw [Int.toNat_natCast] at es
    rw [← es.1, ← es.2] at e6
    have hsl := Plait.squaresAt_lt hb.w1 hk
    have hne := squares_ne (D := panel b) (p := k) hb.w1
    have sH6 := sHT.trans s6
    have el3' := s6 _ _ (sT _ _ el3)
    have el2' := s6 _ _ (sT _ _ el2)
    have n62 : l6 ≠ l2 := fun z => by rw [z, el2'] at e6; cases e6
    let mid := fun (j s : Nat) => if (0 < j ∧ ((panel b).squaresAt k).1 = s) ∨ (1 < j ∧ ((panel b).squaresAt k).2 = s) then Builtin.bitXor (arI (panel b) ms k s) (chI (panel b) ms k) else arI (panel b) ms k s
    walk_at "go"
    refine loop_tup (xs := [.int ((((panel b).squaresAt k).1 : Nat) : Int), .int ((((panel b).squaresAt k).2 : Nat) : Int)]) (fun j σ H' => ∃ v5, σ = [some (.ref a), some (.ref m), some (.ref l2), some (.int (k : Nat)), some (.int (chI (panel b) ms k)), v5] ∧ Same H H' ∧ H' l3 = some (.lst (((List.range (panel b).count).map (chI (panel b) ms)).map V.int)) ∧ H' l6 = some (.tup [.int ((((panel b).squaresAt k).1 : Nat) : Int), .int ((((panel b).squaresAt k).2 : Nat) : Int)]) ∧ H' l2 = some (.lst (((List.range (panel b).squares).map (mid j)).map V.int)))
      ⟨_, rfl, sH6, el3', e6, ?_⟩ (fun j σ H' _ ⟨_, _, _, _, z, _⟩ => SqT.of z) ?_ ?_
    · have e0 : (List.range (panel b).squares).map (mid 0) = (List.range (panel b).squares).map (arI (panel b) ms k) := by
        refine List.map_congr_left fun s _ => ?_
        dsimp only [mid]
        rw [if_neg (by omega)]
      rw [el2', e0]
    · rintro j x σ H7 hx ⟨v5, rfl, s7, el37, el67, el27⟩
      obtain ⟨sq, hsq2, hj, rfl⟩ : ∃ sq : Nat, sq < (panel b).squares ∧ ((j = 0 ∧ sq = ((panel b).squaresAt k).1) ∨ (j = 1 ∧ sq = ((panel b).squaresAt k).2)) ∧ V.int (sq : Int) = x := by
        match j, hx with
        | 0, hx => cases hx; exact ⟨_, hsl.1, .inl ⟨rfl, rfl⟩, rfl⟩
        | 1, hx => cases hx; exact ⟨_, hsl.2, .inr ⟨rfl, rfl⟩, rfl⟩
        | j + 2, hx => simp at hx
      walk_at "go"
      refine R_ixI (i := (sq : Int)) (SqL.of el27) ?_ (by omega) (by rw [List.length_map, List.length_range]; omega)
      walk_at "go"
      refine R_setL (j := sq) el27 ?_ ?_
      · unfold ixN
        rw [List.length_map, List.length_map, List.length_range, if_pos (by omega), if_pos (by omega), Int.toNat_natCast]
      rw [← List.map_set]
      walk_at "go"
      refine ⟨_, rfl, same_set s7 hn2, ?_, ?_, ?_⟩
      · rw [upd_ne n32]; exact el37
      · rw [upd_ne n62]; exact el67
      · rw [upd_same]
        congr 3
        rw [Int.toNat_natCast, List.getD_eq_getElem?_getD, List.getElem?_map, List.getElem?_range hsq2, Option.map_some, Option.getD_some]
        refine List.ext_getElem? fun i => ?_
        by_cases hi : i < (panel b).squares
        · rw [List.getElem?_map, List.getElem?_range hi, Option.map_some]
          by_cases z : sq = i
          · subst z
            rw [List.getElem?_set_self (by rw [List.length_map, List.length_range]; exact hsq2)]
            congr 1
            dsimp only [mid]
            rcases hj with ⟨rfl, rfl⟩ | ⟨rfl, rfl⟩
            · rw [if_neg (by omega), if_pos (by omega)]
            · rw [if_neg (by omega), if_pos (by omega)]
          · rw [List.getElem?_set_ne z, List.getElem?_map, List.getElem?_range hi, Option.map_some]
            congr 1
            dsimp only [mid]
            rcases hj with ⟨rfl, rfl⟩ | ⟨rfl, rfl⟩
            · rw [if_neg (by omega), if_neg (by omega)]
            · by_cases c : ((panel b).squaresAt k).1 = i
              · rw [if_pos (by omega), if_pos (by omega)]
              · rw [if_neg (by omega), if_neg (by omega)]
        · rw [List.getElem?_eq_none (by rw [List.length_set, List.length_map, List.length_range]; omega), List.getElem?_eq_none (by rw [List.length_map, List.length_range]; omega)]
    · rintro σ H7 ⟨v5, rfl, s7, el37, el67, el27⟩
      refine ⟨_, _, _, rfl, s7, el37, ?_⟩
      rw [el27]
      congr 3
      refine List.map_congr_left fun s _ => ?_
      dsimp only [mid, List.length_cons, List.length_nil]
      rw [arI_succ]
      unfold adj
      by_cases c1 : ((panel b).squaresAt k).1 = s
      · rw [if_pos (by omega), if_pos (by simp [c1])]
      · by_cases c2 : ((panel b).squaresAt k).2 = s
        · rw [if_pos (by omega), if_pos (by simp [c2])]
        · rw [if_neg (by omega), if_neg (by simp [c1, c2])]
  · rintro σ H' ⟨v3, v4, v5, rfl, s, el3, el2⟩
    rw [List.length_map, List.length_map, List.length_range] at el2
    walk_at "go"
    exact q _ _ s hn2 el2
theorem rd_add_beside {K : PySem.W.Frag} {vs : List V} {H : Hp} {Q : VK} {E : XK} (h : sp_add_beside K vs H Q E) : t_add_beside K { nx := fun _ H' => Q .non H', rt := Q } (start ["b", "m", "beside", "p", "pair"] vs) H := by
  obtain ⟨a, m, b, ms, rfl, ⟨hb, hm, hl, q⟩⟩ := h
  show t_add_beside K _ [some (.ref a), some (.ref m), none, none, none] H
  unfold t_add_beside
  walk_at "go"
  rename_i l1 H1 n1 s1 e1
  have eNM : NM (panel b) = (panel b).squares + (panel b).bars.length := rfl
  have hq := hb.at_.sq
  have R := hb.right
  have hcp := count_of R
  obtain ⟨_, w1, w8, h1, h8, _, le6, _⟩ := R
  have hbr := bars_le hb
  refine ⟨2, a, b, rfl, hb.same s1, fun H2 l2 s2 n2 e2 => ?_⟩
  rw [← bars_with] at e2
  walk_at "go"
  have s02 := s1.trans s2
  have n21 : l2 ≠ l1 := fun z => by rw [z, e1] at n2; cases n2
  refine loop_list (xs := (ofN (panel b).bars).map V.int) (fun k σ H' => ∃ v3 v4, σ = [some (.ref a), some (.ref m), some (.ref l1), v3, v4] ∧ Same H H' ∧ H' l2 = some (.lst ((ofN (panel b).bars).map V.int)) ∧ H' l1 = some (.lst ((((panel b).bars.take k).map (bsI (panel b) ms)).map V.int)))
    ⟨_, _, rfl, s02, e2, s2 _ _ e1⟩ (fun k σ H' _ ⟨_, _, _, _, z, _⟩ => SqL.of z) ?_ ?_
  · rintro k x σ H' hx ⟨v3, v4, rfl, s, el2, el1⟩
    obtain ⟨p, hp, rfl⟩ : ∃ p : Nat, (panel b).bars[k]? = some p ∧ V.int (p : Int) = x := by
      rw [List.map_map, List.getElem?_map] at hx
      exact Option.map_eq_some_iff.mp hx
    have hpc := (bars_mem.mp (List.mem_of_getElem? hp)).1
    have hk : k < (panel b).bars.length := (List.getElem?_eq_some_iff.mp hp).1
    have hsl := Plait.squaresAt_lt hb.w1 hpc
    have hq' : SqL K H' a (b.map V.int) := s.seq hq
    walk_at "go"
    refine ⟨_, _, _, rfl, by omega, by omega, by omega, by omega, fun H6 l6 s6 e6 => ?_⟩
    have es := squaresAt_of hb.right (p := (p : Int)) (by omega) _ rfl
    rw [Int.toNat_natCast] at es
    rw [← es.1, ← es.2] at e6
    have hm6 : SqL K H6 m (ms.map V.int) := (s.trans s6).seq hm
    have el1' := s6 _ _ el1
    walk_at "go"
    refine ⟨ty_list (SqL.of el1'), ?_⟩
    walk_at "go"
    refine R_ixT (SqT.of e6) (v := .int _) rfl ?_
    walk_at "go"
    refine R_ixT (SqT.of e6) (v := .int _) rfl ?_
    walk_at "go"
    refine R_append el1' (by rw [sizeLine_eq, List.length_map, List.length_map, List.length_take]; omega) ?_
    walk_at "go"
    refine ⟨_, _, rfl, same_set (s.trans s6) n1, ?_, ?_⟩
    · rw [upd_ne n21]; exact s6 _ _ el2
    · rw [upd_same, List.take_add_one, hp]
      simp only [Option.toList_some, List.map_append, List.map_cons, List.map_nil]
      rfl
  · rintro σ H' ⟨v3, v4, rfl, s, el2, el1⟩
    rw [List.length_map, List.length_map, List.take_of_length_le (Nat.le_refl _)] at el1
    walk_at "go"
    exact q _ _ s n1 el1
/-! ### what is wrong first -/
end Il

set_option linter.all false
set_option maxRecDepth 100000
namespace Il
open PySem PySem.Spec PyProof.Rows L2 L3
end Il

set_option linter.all false
set_option maxRecDepth 100000
namespace Il
open PySem PySem.Spec PyProof.Rows L2 L3
end Il

set_option linter.all false
set_option maxRecDepth 100000
namespace Il
open PySem PySem.Spec PyProof.Rows L2 L3
end Il

set_option linter.all false
set_option maxRecDepth 100000
namespace Il
open PySem PySem.Spec PyProof.Rows L2 L3
end Il

namespace Il
open Plait PlaitP
theorem len_sub : ∀ {l m : List Nat}, l.Nodup → (∀ x ∈ l, x ∈ m) → l.length ≤ m.length
  | [], m, _, _ => Nat.zero_le _
  | a :: r, m, hl, h => by
    obtain ⟨h1, h2⟩ := List.nodup_cons.mp hl
    have ha : a ∈ m := h a (List.mem_cons_self ..)
    have e : (m.erase a).length = m.length - 1 := List.length_erase_of_mem ha
    have hp : 0 < m.length := List.length_pos_of_mem ha
    have ih := len_sub (l := r) (m := m.erase a) h2 fun x hx => (List.mem_erase_of_ne (fun (z : x = a) => h1 (z ▸ hx))).mpr (h x (List.mem_cons_of_mem _ hx))
    rw [List.length_cons]
    omega
section
variable (D : Panel) (p : Nat)
end
end Il

set_option linter.all false
set_option maxRecDepth 100000
namespace Il
open PySem PySem.Spec PyProof.Rows L2 L3
end Il

set_option linter.all false
set_option maxRecDepth 100000
namespace Il
open PySem PySem.Spec PyProof.Rows L2 L3
abbrev pb (x : Nat × Bool) : Int × Int := ((x.1 : Int), bit x.2)
/-! ### the first two alike -/
end Il

namespace Il
open Plait PlaitP
/-! ### a drawing, place by place: rows of N squares and one more -/
end Il

set_option linter.all false
set_option maxRecDepth 100000
namespace Il
open PySem PySem.Spec PyProof.Rows L2 L3
/-! ### a drawing read -/
end Il

namespace Il
/-! ### rows of binary digits: sums, products -/
theorem xor_and_sum : ∀ a b : Nat, (a ^^^ b) + 2 * (a &&& b) = a + b := by
  intro a
  induction a using Nat.strongRecOn with
  | ind a ih =>
    intro b
    by_cases h : a = 0
    · subst h
      rw [Nat.zero_xor, Nat.zero_and]
      omega
    · have i := ih (a / 2) (by omega) (b / 2)
      rw [← Nat.xor_div_two, ← Nat.and_div_two] at i
      have x1 : (a ^^^ b) % 2 = 1 ↔ (a % 2 = 1 ∧ ¬ b % 2 = 1) ∨ (¬ a % 2 = 1 ∧ b % 2 = 1) := by
        rw [Nat.xor_mod_two_eq_one]
        omega
      have x2 : (a &&& b) % 2 = 1 ↔ a % 2 = 1 ∧ b % 2 = 1 := Nat.and_mod_two_eq_one
      omega
/-- the sum of those digits of g that v asks for -/
def dot : Nat → Nat → (Nat → Bool) → Bool
  | 0, _, _ => false
  | n + 1, v, g => dot n v g != (v.testBit n && g n)
theorem dot_xor (v w : Nat) (g : Nat → Bool) : ∀ n, dot n (v ^^^ w) g = (dot n v g != dot n w g)
  | 0 => rfl
  | n + 1 => by
    show (dot n (v ^^^ w) g != _) = _
    rw [dot_xor v w g n, Nat.testBit_xor]
    show _ = ((dot n v g != (v.testBit n && g n)) != (dot n w g != (w.testBit n && g n)))
    cases dot n v g <;> cases dot n w g <;> cases v.testBit n <;> cases w.testBit n <;> cases g n <;> rfl
theorem dot_add (v : Nat) (g h : Nat → Bool) : ∀ n, dot n v (fun i => g i != h i) = (dot n v g != dot n v h)
  | 0 => rfl
  | n + 1 => by
    show (dot n v (fun i => g i != h i) != _) = ((dot n v g != (v.testBit n && g n)) != (dot n v h != (v.testBit n && h n)))
    rw [dot_add v g h n]
    dsimp only
    cases dot n v g <;> cases dot n v h <;> cases v.testBit n <;> cases g n <;> cases h n <;> rfl
theorem dot_zero (g : Nat → Bool) : ∀ n, dot n 0 g = false
  | 0 => rfl
  | n + 1 => by
    show (dot n 0 g != _) = _
    rw [dot_zero g n, Nat.zero_testBit]
    rfl
theorem dot_congr {v : Nat} {g h : Nat → Bool} : ∀ {n}, (∀ i, i < n → g i = h i) → dot n v g = dot n v h
  | 0, _ => rfl
  | n + 1, e => by
    show (dot n v g != _) = (dot n v h != _)
    rw [dot_congr fun i hi => e i (by omega), e n (by omega)]
theorem dot_pow {i : Nat} (g : Nat → Bool) : ∀ {n}, dot n (2 ^ i) g = (decide (i < n) && g i)
  | 0 => by
    rw [decide_eq_false (by omega)]
    rfl
  | n + 1 => by
    show (dot n (2 ^ i) g != _) = _
    rw [dot_pow g, Nat.testBit_two_pow]
    by_cases h : i < n
    · rw [decide_eq_true h, decide_eq_true (show i < n + 1 by omega), decide_eq_false (show ¬ i = n by omega)]
      cases g i <;> rfl
    · by_cases h2 : i = n
      · subst h2
        rw [decide_eq_false h, decide_eq_true (show i < i + 1 by omega), decide_eq_true rfl]
        cases g i <;> rfl
      · rw [decide_eq_false h, decide_eq_false (show ¬ i < n + 1 by omega), decide_eq_false h2]
        rfl
/-- one digit alone -/
theorem dot_one {v l : Nat} : ∀ {n}, l < n → dot n v (fun i => decide (i = l)) = v.testBit l
  | n + 1, h => by
    have z : ∀ m, m ≤ l → dot m v (fun i => decide (i = l)) = false := by
      intro m
      induction m with
      | zero => intro _; rfl
      | succ m ih =>
        intro hm
        show (dot m v _ != _) = _
        rw [ih (by omega)]
        dsimp only
        rw [decide_eq_false (show ¬ m = l by omega), Bool.and_false]
        rfl
    show (dot n v _ != _) = _
    by_cases e : n = l
    · subst e
      rw [z n (Nat.le_refl _)]
      dsimp only
      rw [decide_eq_true rfl, Bool.and_true]
      cases v.testBit n <;> rfl
    · rw [dot_one (n := n) (by omega)]
      dsimp only
      rw [decide_eq_false e, Bool.and_false]
      cases v.testBit l <;> rfl
/-! ### a number by its digits -/
def code (g : Nat → Bool) : Nat → Nat
  | 0 => 0
  | n + 1 => code g n ||| (if g n = true then 2 ^ n else 0)
theorem code_lt (g : Nat → Bool) : ∀ n, code g n < 2 ^ n
  | 0 => Nat.zero_lt_one
  | n + 1 => by
    have h := code_lt g n
    have e : 2 ^ (n + 1) = 2 ^ n * 2 := Nat.pow_succ ..
    show code g n ||| _ < _
    refine Nat.or_lt_two_pow (by omega) ?_
    have := Nat.two_pow_pos n
    split <;> omega
theorem code_bit (g : Nat → Bool) (i : Nat) : ∀ n, (code g n).testBit i = (decide (i < n) && g i)
  | 0 => by
    show (0 : Nat).testBit i = _
    rw [Nat.zero_testBit, decide_eq_false (by omega)]
    rfl
  | n + 1 => by
    show (code g n ||| _).testBit i = _
    rw [Nat.testBit_or, code_bit g i n]
    have e : (if g n = true then 2 ^ n else 0 : Nat).testBit i = (decide (n = i) && g n) := by
      cases g n
      · rw [if_neg (by decide), Nat.zero_testBit, Bool.and_false]
      · rw [if_pos rfl, Nat.testBit_two_pow, Bool.and_true]
    rw [e]
    by_cases h : i < n
    · rw [decide_eq_true h, decide_eq_true (show i < n + 1 by omega), decide_eq_false (show ¬ n = i by omega)]
      cases g i <;> rfl
    · by_cases h2 : n = i
      · subst h2
        rw [decide_eq_false h, decide_eq_true (show n < n + 1 by omega), decide_eq_true rfl]
        cases g n <;> rfl
      · rw [decide_eq_false h, decide_eq_false (show ¬ i < n + 1 by omega), decide_eq_false h2]
        rfl
theorem bits_eq {a b n : Nat} (ha : a < 2 ^ n) (hb : b < 2 ^ n) (h : ∀ i, i < n → a.testBit i = b.testBit i) : a = b := by
  refine Nat.eq_of_testBit_eq fun i => ?_
  by_cases c : i < n
  · exact h i c
  · have := Nat.pow_le_pow_right (n := 2) (by decide) (show n ≤ i by omega)
    rw [Nat.testBit_lt_two_pow (by omega), Nat.testBit_lt_two_pow (by omega)]
/-! ### elimination -/
def redu (rest : Nat) (C : List Nat) : Nat := C.foldl (fun r k => min r (r ^^^ k)) rest
def elimS (C : List Nat) (v : Nat) : List Nat := if 0 < redu v C then C ++ [redu v C] else C
def elim (vs : List Nat) : List Nat := vs.foldl elimS []
/-- the first digit -/
structure Lead (n c l : Nat) : Prop where
  lt : l < n
  is : c.testBit l = true
  no : ∀ j, l < j → c.testBit j = false
theorem lead_of : ∀ {n c : Nat}, c < 2 ^ n → c ≠ 0 → ∃ l, Lead n c l
  | 0, c, h, h0 => absurd (show c = 0 by have : (2 : Nat) ^ 0 = 1 := rfl; omega) h0
  | n + 1, c, h, h0 => by
    cases hb : c.testBit n with
    | true =>
      refine ⟨n, by omega, hb, fun j hj => ?_⟩
      have := Nat.pow_le_pow_right (n := 2) (by decide) (show n + 1 ≤ j by omega)
      exact Nat.testBit_lt_two_pow (by omega)
    | false =>
      have hlt : c < 2 ^ n := by
        refine Nat.lt_pow_two_of_testBit _ fun i hi => ?_
        by_cases e : i = n
        · subst e; exact hb
        · have := Nat.pow_le_pow_right (n := 2) (by decide) (show n + 1 ≤ i by omega)
          exact Nat.testBit_lt_two_pow (by omega)
      obtain ⟨l, a, b, d⟩ := lead_of hlt h0
      exact ⟨l, by omega, b, d⟩
theorem lt_of_bit : ∀ {i x y : Nat}, x.testBit i = false → y.testBit i = true → (∀ j, i < j → x.testBit j = y.testBit j) → x < y
  | 0, x, y, hx, hy, h => by
    have e : x / 2 = y / 2 := Nat.eq_of_testBit_eq fun j => by
      rw [← Nat.testBit_succ, ← Nat.testBit_succ]
      exact h (j + 1) (by omega)
    rw [Nat.testBit_zero] at hx hy
    have := of_decide_eq_false hx
    have := of_decide_eq_true hy
    omega
  | i + 1, x, y, hx, hy, h => by
    rw [Nat.testBit_succ] at hx hy
    have := lt_of_bit (i := i) (x := x / 2) (y := y / 2) hx hy fun j hj => by
      rw [← Nat.testBit_succ, ← Nat.testBit_succ]
      exact h (j + 1) (by omega)
    omega
/-- one step clears the digit -/
theorem step_bit {n c l r : Nat} (L : Lead n c l) : (min r (r ^^^ c)).testBit l = false ∧ ∀ j, c.testBit j = false → (min r (r ^^^ c)).testBit j = r.testBit j := by
  have hx : (r ^^^ c).testBit l = !r.testBit l := by
    rw [Nat.testBit_xor, L.is]
    cases r.testBit l <;> rfl
  have hj : ∀ j, l < j → (r ^^^ c).testBit j = r.testBit j := fun j h => by
    rw [Nat.testBit_xor, L.no j h]
    cases r.testBit j <;> rfl
  have hn : ∀ j, c.testBit j = false → (r ^^^ c).testBit j = r.testBit j := fun j h => by
    rw [Nat.testBit_xor, h]
    cases r.testBit j <;> rfl
  cases hb : r.testBit l with
  | true =>
    have hlt : r ^^^ c < r := lt_of_bit (i := l) (by rw [hx, hb]; rfl) hb fun j h => hj j h
    rw [Nat.min_eq_right (Nat.le_of_lt hlt)]
    exact ⟨by rw [hx, hb]; rfl, hn⟩
  | false =>
    have hlt : r < r ^^^ c := lt_of_bit (i := l) hb (by rw [hx, hb]; rfl) fun j h => (hj j h).symm
    rw [Nat.min_eq_left (Nat.le_of_lt hlt)]
    exact ⟨hb, fun _ _ => rfl⟩
theorem min_or (a b : Nat) : min a b = a ∨ min a b = b := by omega
/-- rows one behind another: none has the first digit of one ahead of it -/
def Tri (n : Nat) (C : List Nat) : Prop := (∀ c ∈ C, c < 2 ^ n ∧ c ≠ 0) ∧ C.Pairwise fun a b => ∀ l, Lead n a l → b.testBit l = false
theorem redu_lt {n : Nat} : ∀ {C : List Nat} {r : Nat}, (∀ c ∈ C, c < 2 ^ n) → r < 2 ^ n → redu r C < 2 ^ n
  | [], _, _, h => h
  | c :: C, r, hc, h => by
    refine redu_lt (C := C) (r := min r (r ^^^ c)) (fun x m => hc x (List.mem_cons_of_mem _ m)) ?_
    have := Nat.xor_lt_two_pow h (hc c (List.mem_cons_self ..))
    omega
theorem redu_keep {l : Nat} {n : Nat} : ∀ {C : List Nat} {r : Nat}, (∀ c ∈ C, ∃ k, Lead n c k) → (∀ c ∈ C, c.testBit l = false) → (redu r C).testBit l = r.testBit l
  | [], _, _, _ => rfl
  | c :: C, r, hl, hc => by
    obtain ⟨k, L⟩ := hl c (List.mem_cons_self ..)
    show (redu (min r (r ^^^ c)) C).testBit l = _
    rw [redu_keep (fun x m => hl x (List.mem_cons_of_mem _ m)) (fun x m => hc x (List.mem_cons_of_mem _ m))]
    exact (step_bit L).2 l (hc c (List.mem_cons_self ..))
theorem redu_clear {n : Nat} : ∀ {C : List Nat} {r : Nat}, Tri n C → ∀ c ∈ C, ∀ l, Lead n c l → (redu r C).testBit l = false
  | [], _, _ => fun c h => by cases h
  | d :: C, r, ⟨h1, h2⟩ => fun c hc l L => by
    obtain ⟨p1, p2⟩ := List.pairwise_cons.mp h2
    have T : Tri n C := ⟨fun x m => h1 x (List.mem_cons_of_mem _ m), p2⟩
    show (redu (min r (r ^^^ d)) C).testBit l = _
    rcases List.mem_cons.mp hc with rfl | hc
    · rw [redu_keep (n := n) (fun x m => lead_of (T.1 x m).1 (T.1 x m).2) (fun x m => p1 x m l L)]
      exact (step_bit L).1
    · exact redu_clear T c hc l L
theorem redu_dot {n : Nat} {g : Nat → Bool} : ∀ {C : List Nat} {r : Nat}, (∀ c ∈ C, dot n c g = false) → dot n (redu r C) g = dot n r g
  | [], _, _ => rfl
  | c :: C, r, h => by
    show dot n (redu (min r (r ^^^ c)) C) g = _
    rw [redu_dot fun x m => h x (List.mem_cons_of_mem _ m)]
    rcases min_or r (r ^^^ c) with e | e
    · rw [e]
    · rw [e, dot_xor, h c (List.mem_cons_self ..)]
      cases dot n r g <;> rfl
theorem elimS_tri {n : Nat} {C : List Nat} {v : Nat} (T : Tri n C) (hv : v < 2 ^ n) : Tri n (elimS C v) := by
  unfold elimS
  split
  · rename_i h
    refine ⟨fun c hc => ?_, ?_⟩
    · rcases List.mem_append.mp hc with m | m
      · exact T.1 c m
      · rw [List.mem_singleton] at m
        subst m
        exact ⟨redu_lt (fun x m => (T.1 x m).1) hv, by omega⟩
    · rw [List.pairwise_append]
      refine ⟨T.2, List.pairwise_singleton _ _, fun a ha b hb => ?_⟩
      rw [List.mem_singleton] at hb
      subst hb
      exact fun l L => redu_clear T a ha l L
  · exact T
theorem elimS_ker {n : Nat} {g : Nat → Bool} {C : List Nat} {v : Nat} : (∀ c ∈ elimS C v, dot n c g = false) ↔ (∀ c ∈ C, dot n c g = false) ∧ dot n v g = false := by
  unfold elimS
  split
  · rename_i h
    constructor
    · intro k
      have k1 : ∀ c ∈ C, dot n c g = false := fun c m => k c (List.mem_append_left _ m)
      have k2 := k (redu v C) (List.mem_append_right _ (List.mem_singleton.mpr rfl))
      rw [redu_dot k1] at k2
      exact ⟨k1, k2⟩
    · rintro ⟨k1, k2⟩ c hc
      rcases List.mem_append.mp hc with m | m
      · exact k1 c m
      · rw [List.mem_singleton] at m
        subst m
        rw [redu_dot k1, k2]
  · rename_i h
    refine ⟨fun k1 => ⟨k1, ?_⟩, fun k => k.1⟩
    have e : redu v C = 0 := by omega
    rw [← redu_dot (r := v) k1, e, dot_zero]
theorem elim_is {n : Nat} : ∀ {vs C : List Nat}, Tri n C → (∀ v ∈ vs, v < 2 ^ n) → Tri n (vs.foldl elimS C) ∧ ∀ g, (∀ c ∈ vs.foldl elimS C, dot n c g = false) ↔ (∀ c ∈ C, dot n c g = false) ∧ ∀ v ∈ vs, dot n v g = false
  | [], C, T, _ => ⟨T, fun g => ⟨fun h => ⟨h, fun v m => by cases m⟩, fun h => h.1⟩⟩
  | v :: vs, C, T, hv => by
    obtain ⟨a, b⟩ := elim_is (vs := vs) (elimS_tri T (hv v (List.mem_cons_self ..))) fun x m => hv x (List.mem_cons_of_mem _ m)
    refine ⟨a, fun g => (b g).trans ?_⟩
    rw [elimS_ker]
    constructor
    · rintro ⟨⟨k1, k2⟩, k3⟩
      refine ⟨k1, fun x m => ?_⟩
      rcases List.mem_cons.mp m with rfl | m
      · exact k2
      · exact k3 x m
    · rintro ⟨k1, k2⟩
      exact ⟨⟨k1, k2 v (List.mem_cons_self ..)⟩, fun x m => k2 x (List.mem_cons_of_mem _ m)⟩
/-- any answers are met -/
theorem tri_any {n : Nat} : ∀ {C : List Nat}, Tri n C → ∀ f : Nat → Bool, ∃ g : Nat → Bool, ∀ c ∈ C, dot n c g = f c
  | [], _, _ => ⟨fun _ => false, fun c m => by cases m⟩
  | d :: C, ⟨h1, h2⟩, f => by
    obtain ⟨p1, p2⟩ := List.pairwise_cons.mp h2
    obtain ⟨g, hg⟩ := tri_any (C := C) ⟨fun x m => h1 x (List.mem_cons_of_mem _ m), p2⟩ f
    have hd := h1 d (List.mem_cons_self ..)
    obtain ⟨l, L⟩ := lead_of hd.1 hd.2
    by_cases e : dot n d g = f d
    · refine ⟨g, fun c m => ?_⟩
      rcases List.mem_cons.mp m with rfl | m
      · exact e
      · exact hg c m
    · refine ⟨fun i => g i != decide (i = l), fun c m => ?_⟩
      rw [dot_add, dot_one L.lt]
      rcases List.mem_cons.mp m with rfl | m
      · rw [L.is]
        revert e
        cases dot n c g <;> cases f c <;> simp
      · rw [p1 c m l L, hg c m]
        cases f c <;> rfl
/-! ### how many rows of digits meet all -/
def kerL (n : Nat) (C : List Nat) : List Nat := (List.range (2 ^ n)).filter fun m => C.all fun c => !dot n c m.testBit
theorem mem_kerL {n m : Nat} {C : List Nat} : m ∈ kerL n C ↔ m < 2 ^ n ∧ ∀ c ∈ C, dot n c m.testBit = false := by
  unfold kerL
  rw [List.mem_filter, List.mem_range, List.all_eq_true]
  simp
theorem kerL_nodup (n : Nat) (C : List Nat) : (kerL n C).Nodup := List.Pairwise.filter _ List.nodup_range
theorem split_len (p : Nat → Bool) : ∀ l : List Nat, (l.filter p).length + (l.filter fun x => !p x).length = l.length
  | [] => rfl
  | a :: r => by
    have := split_len p r
    rw [List.filter_cons, List.filter_cons]
    cases p a
    · rw [if_neg (by decide), if_pos (by decide), List.length_cons, List.length_cons]; omega
    · rw [if_pos rfl, if_neg (by decide), List.length_cons, List.length_cons]; omega
theorem bits_xor (m u : Nat) : (m ^^^ u).testBit = fun i => m.testBit i != u.testBit i := by
  funext i
  rw [Nat.testBit_xor]
theorem half {n : Nat} {C : List Nat} {d : Nat} (T : Tri n (C ++ [d])) : (kerL n (C ++ [d])).length * 2 = (kerL n C).length := by
  obtain ⟨g, hg⟩ := tri_any T fun x => x == d
  -- d is none of C
  have hne : ∀ c ∈ C, c ≠ d := fun c m e => by
    have p := (List.pairwise_append.mp T.2).2.2 c m d (List.mem_singleton.mpr rfl)
    have hc := T.1 c (List.mem_append_left _ m)
    obtain ⟨l, L⟩ := lead_of hc.1 hc.2
    have := p l L
    rw [← e, L.is] at this
    cases this
  have hu : ∀ v, dot n v (code g n).testBit = dot n v g := fun v => dot_congr fun i hi => by rw [code_bit, decide_eq_true hi, Bool.true_and]
  have u1 : ∀ c ∈ C, dot n c (code g n).testBit = false := fun c m => by
    rw [hu, hg c (List.mem_append_left _ m)]
    exact beq_eq_false_iff_ne.mpr (hne c m)
  have u2 : dot n d (code g n).testBit = true := by
    rw [hu, hg d (List.mem_append_right _ (List.mem_singleton.mpr rfl))]
    exact beq_self_eq_true d
  generalize hU : code g n = u at u1 u2
  have ul : u < 2 ^ n := hU ▸ code_lt g n
  have s := split_len (fun m => !dot n d m.testBit) (kerL n C)
  have e1 : (kerL n C).filter (fun m => !dot n d m.testBit) = kerL n (C ++ [d]) := by
    unfold kerL
    rw [List.filter_filter]
    refine List.filter_congr fun m _ => ?_
    rw [List.all_append, List.all_cons, List.all_nil, Bool.and_true, Bool.and_comm]
  have e2 : ((kerL n C).filter fun m => !!dot n d m.testBit).length = (kerL n (C ++ [d])).length := by
    have : (((kerL n (C ++ [d])).map fun m => m ^^^ u)).length = (kerL n (C ++ [d])).length := List.length_map _
    rw [← this]
    refine len_same (List.Pairwise.filter _ (kerL_nodup n C)) (Plait.nodup_map (kerL_nodup n _) fun x hx y hy e => ?_) fun m => ?_
    · have := congrArg (fun z => z ^^^ u) e
      simpa [Nat.xor_assoc, Nat.xor_self] using this
    · rw [List.mem_filter, List.mem_map, mem_kerL, Bool.not_not]
      constructor
      · rintro ⟨⟨ml, mk⟩, md⟩
        refine ⟨m ^^^ u, mem_kerL.mpr ⟨Nat.xor_lt_two_pow ml ul, fun c hc => ?_⟩, by rw [Nat.xor_assoc, Nat.xor_self, Nat.xor_zero]⟩
        rw [bits_xor, dot_add]
        rcases List.mem_append.mp hc with h | h
        · rw [mk c h, u1 c h]; rfl
        · rw [List.mem_singleton] at h
          subst h
          rw [md, u2]; rfl
      · rintro ⟨x, hx, rfl⟩
        obtain ⟨xl, xk⟩ := mem_kerL.mp hx
        refine ⟨⟨Nat.xor_lt_two_pow xl ul, fun c hc => ?_⟩, ?_⟩
        · rw [bits_xor, dot_add, xk c (List.mem_append_left _ hc), u1 c hc]; rfl
        · rw [bits_xor, dot_add, xk d (List.mem_append_right _ (List.mem_singleton.mpr rfl)), u2]; rfl
  rw [e1, e2] at s
  omega
theorem ker_pow {n : Nat} (C : List Nat) : Tri n C → (kerL n C).length * 2 ^ C.length = 2 ^ n := by
  induction h : C.length generalizing C with
  | zero =>
    intro _
    have : C = [] := List.length_eq_zero_iff.mp h
    subst this
    unfold kerL
    have e : (List.range (2 ^ n)).filter (fun m => ([] : List Nat).all fun c => !dot n c m.testBit) = List.range (2 ^ n) := List.filter_eq_self.mpr fun a _ => rfl
    rw [e, List.length_range]
    exact Nat.mul_one _
  | succ k ih =>
    intro T
    obtain ⟨E, d, rfl⟩ : ∃ E d, C = E ++ [d] := ⟨C.dropLast, C.getLast (by intro z; rw [z] at h; cases h), (List.dropLast_concat_getLast _).symm⟩
    have hE : E.length = k := by rw [List.length_append] at h; simpa using h
    have TE : Tri n E := ⟨fun c m => T.1 c (List.mem_append_left _ m), (List.pairwise_append.mp T.2).1⟩
    have i := ih E hE TE
    rw [← half T] at i
    rw [Nat.pow_succ, Nat.mul_comm (2 ^ k) 2, ← Nat.mul_assoc]
    exact i
/-- **as many rows meet all sums as there are digits that no sum binds** -/
theorem elim_count {n s : Nat} {vs : List Nat} (hv : ∀ v ∈ vs, v < 2 ^ n) (hk : (kerL n vs).length = 2 ^ s) : s + (elim vs).length = n := by
  have T0 : Tri n [] := ⟨fun c m => (by cases m), List.Pairwise.nil⟩
  obtain ⟨T, k⟩ := elim_is (n := n) T0 hv
  have e : kerL n (elim vs) = kerL n vs := by
    unfold kerL
    refine List.filter_congr fun m _ => ?_
    have := k m.testBit
    rw [Bool.eq_iff_iff, List.all_eq_true, List.all_eq_true]
    simp only [Bool.not_eq_true']
    constructor
    · exact fun h => (this.mp h).2
    · exact fun h => this.mpr ⟨fun c m => (by cases m), h⟩
  have p := ker_pow (n := n) (elim vs) T
  rw [e, hk, ← Nat.pow_add] at p
  exact (Nat.pow_right_inj (by decide)).mp p
end Il

namespace Il
open Plait PlaitP
section
variable {D : Panel}
theorem mem_bars {p : Nat} : p ∈ D.bars ↔ p < D.count ∧ D.state p = 2 := by
  unfold Panel.bars
  rw [List.mem_filter, List.mem_range, beq_iff_eq]
theorem bars_nodup : D.bars.Nodup := nodup_filter_range _ _
/-- of two ends that are joined, the pieces are of one strand -/
theorem with_joined {e : Nat} (he : e < D.ends) : D.With (pieceOf e) (pieceOf (D.joined e)) := by
  have hi : pieceOf e < D.pieces := piece_lt.mpr he
  rcases two_of (rfl : pieceOf e = pieceOf e) with h | h
  · have ha := ends_two D hi
    obtain ⟨m, m0, _, hm, _⟩ := round D ha
    refine ⟨m - 1, ?_⟩
    have hn : D.next (D.on (m - 1) (2 * pieceOf e)) = 2 * pieceOf e := by
      rw [← on_succ, show m - 1 + 1 = m by omega]
      exact hm
    have hl := on_lt D (m - 1) ha
    unfold Panel.next at hn
    have := congrArg D.joined hn
    rw [joined_joined D (other_lt hl), ← h] at this
    rw [← this, other_piece]
    exact congrArg (fun z => pieceOf (D.on (m - 1) z)) h.symm
  · refine ⟨1, ?_⟩
    show pieceOf (D.next (2 * pieceOf e)) = _
    unfold Panel.next
    rw [← h]
theorem piece_f (s k : Nat) : pieceOf (endAt true s k) = 4 * s + k := by
  show pieceOf (firstEnd s k) = _
  unfold pieceOf firstEnd
  omega
theorem piece_l (s k : Nat) : pieceOf (endAt false s k) = 4 * s + (k + 3) % 4 := by
  show pieceOf (lastEnd s k) = _
  unfold pieceOf lastEnd
  omega
/-- alike at ends that are joined -/
def Loc (D : Panel) (x : Nat → Bool) : Prop := ∀ s k, s < D.squares → k < 4 → ∀ f, x (pieceOf (D.joined (endAt f s k))) = x (pieceOf (endAt f s k))
theorem loc_end {x : Nat → Bool} (L : Loc D x) {e : Nat} (he : e < D.ends) : x (pieceOf (D.joined e)) = x (pieceOf e) := by
  obtain ⟨f, s, k, hk, rfl⟩ := endAt_split e
  exact L s k ((endAt_lt hk).mp he) hk f
theorem loc_with {x : Nat → Bool} (L : Loc D x) {i j : Nat} (hi : i < D.pieces) (h : D.With i j) : x j = x i := by
  obtain ⟨n, rfl⟩ := h
  have ha := ends_two D hi
  induction n with
  | zero => show x (pieceOf (2 * i)) = _; rw [piece_two]
  | succ n ih =>
    rw [on_succ]
    unfold Panel.next
    rw [loc_end L (other_lt (on_lt D n ha)), other_piece, ih]
theorem loc_least {x : Nat → Bool} (L : Loc D x) {i : Nat} (hi : i < D.pieces) : x i = x (D.leastOf i) := (loc_with L hi (least_with D hi)).symm
theorem loc_set (S : Nat → Bool) : Loc D fun i => S (D.traced.strandOf i) := by
  intro s k hs hk f
  have he : endAt f s k < D.ends := (endAt_lt hk).mpr hs
  have hi : pieceOf (endAt f s k) < D.pieces := piece_lt.mpr he
  have hw := with_joined he
  have hj := with_lt D hi hw
  dsimp only
  rw [(strandOf_iff D hj hi).mpr (least_same D hi hw)]
section
variable {x : Nat → Bool} (L : Loc D x) {s k : Nat} (hs : s < D.squares) (hk : k < 4)
include L hs hk
theorem side_none (h : D.beyond s k = none) : x (4 * s + k) = x (4 * s + (k + 3) % 4) := by
  have := L s k hs hk true
  rw [joined_at D true s k hk, h, piece_f] at this
  dsimp only at this
  rw [Bool.not_true, piece_l] at this
  exact this.symm
theorem side_one {t : Nat} (h : D.beyond s k = some t) (z : D.state (D.placeOf s k) = 1) : x (4 * s + k) = x (4 * s + (k + 3) % 4) := by
  have := L s k hs hk true
  rw [joined_at D true s k hk, h, piece_f] at this
  dsimp only at this
  rw [if_pos z, Bool.not_true, piece_l] at this
  exact this.symm
theorem side_two {t : Nat} (h : D.beyond s k = some t) (z : D.state (D.placeOf s k) = 2) : x (4 * s + k) = x (4 * t + ((k + 2) % 4 + 3) % 4) ∧ x (4 * s + (k + 3) % 4) = x (4 * t + (k + 2) % 4) := by
  have a := L s k hs hk true
  have b := L s k hs hk false
  rw [joined_at D true s k hk, h, piece_f] at a
  rw [joined_at D false s k hk, h, piece_l] at b
  dsimp only at a b
  rw [if_neg (by omega), if_pos z, Bool.not_true, piece_l] at a
  rw [if_neg (by omega), if_pos z, Bool.not_false, piece_f] at b
  exact ⟨a.symm, b.symm⟩
theorem side_zero {t : Nat} (h : D.beyond s k = some t) (z : D.state (D.placeOf s k) = 0) : x (4 * s + k) = x (4 * t + (k + 2) % 4) ∧ x (4 * s + (k + 3) % 4) = x (4 * t + ((k + 2) % 4 + 3) % 4) := by
  have a := L s k hs hk true
  have b := L s k hs hk false
  rw [joined_at D true s k hk, h, piece_f] at a
  rw [joined_at D false s k hk, h, piece_l] at b
  dsimp only at a b
  rw [if_neg (by omega), if_neg (by omega), piece_f] at a
  rw [if_neg (by omega), if_neg (by omega), piece_l] at b
  exact ⟨a.symm, b.symm⟩
end
/-- a panel whose places are right -/
structure Pn (D : Panel) : Prop where
  w : 1 ≤ D.wide
  st : ∀ p, p < D.count → D.state p ≤ 2
/-- four pieces at a side -/
theorem cyc {x : Nat → Bool} (P : Pn D) (L : Loc D x) {s k t : Nat} (hs : s < D.squares) (hk : k < 4) (h : D.beyond s k = some t) :
    (x (4 * s + k) != x (4 * s + (k + 3) % 4)) = (x (4 * t + (k + 2) % 4) != x (4 * t + ((k + 2) % 4 + 3) % 4)) := by
  have hp := (at_place hs hk h).1
  have hz := P.st _ hp
  obtain ⟨ht, hb, hpl, _⟩ := beyond_back hs hk h
  have cs : D.state (D.placeOf s k) = 0 ∨ D.state (D.placeOf s k) = 1 ∨ D.state (D.placeOf s k) = 2 := by omega
  rcases cs with z | z | z
  · obtain ⟨a, b⟩ := side_zero L hs hk h z
    rw [a, b]
  · have a := side_one L hs hk h z
    have b := side_one L ht (Nat.mod_lt _ (by decide)) hb (by rw [hpl]; exact z)
    rw [a, b]
    cases x (4 * s + (k + 3) % 4) <;> cases x (4 * t + ((k + 2) % 4 + 3) % 4) <;> rfl
  · obtain ⟨a, b⟩ := side_two L hs hk h z
    rw [a, b]
    cases x (4 * t + ((k + 2) % 4 + 3) % 4) <;> cases x (4 * t + (k + 2) % 4) <;> rfl
/-! ### marks by digits: squares, then breaks across -/
/-- what changes at a side -/
def dl (D : Panel) (g : Nat → Bool) (s k : Nat) : Bool := match D.beyond s k with
  | none => false
  | some t => if D.state (D.placeOf s k) = 0 then g s != g t else if D.state (D.placeOf s k) = 2 then g (D.squares + D.bars.idxOf (D.placeOf s k)) else false
theorem dl_none {g : Nat → Bool} {s k : Nat} (h : D.beyond s k = none) : dl D g s k = false := by
  unfold dl
  rw [h]
theorem dl_some {g : Nat → Bool} {s k t : Nat} (h : D.beyond s k = some t) : dl D g s k = if D.state (D.placeOf s k) = 0 then g s != g t else if D.state (D.placeOf s k) = 2 then g (D.squares + D.bars.idxOf (D.placeOf s k)) else false := by
  unfold dl
  rw [h]
theorem dl_back {g : Nat → Bool} {s k t : Nat} (hs : s < D.squares) (hk : k < 4) (h : D.beyond s k = some t) : dl D g t ((k + 2) % 4) = dl D g s k := by
  obtain ⟨ht, hb, hpl, _⟩ := beyond_back hs hk h
  rw [dl_some h, dl_some hb, hpl]
  split
  · cases g s <;> cases g t <;> rfl
  · rfl
theorem bar_idx {p : Nat} (h : p ∈ D.bars) : D.bars.idxOf p < D.bars.length := List.idxOf_lt_length_of_mem h
theorem dl_congr {g h : Nat → Bool} (e : ∀ i, i < D.squares + D.bars.length → g i = h i) {s k : Nat} (hs : s < D.squares) (hk : k < 4) : dl D g s k = dl D h s k := by
  cases hb : D.beyond s k with
  | none => rw [dl_none hb, dl_none hb]
  | some t =>
    have ht := (beyond_back hs hk hb).1
    have hp := (at_place hs hk hb).1
    rw [dl_some hb, dl_some hb]
    split
    · rw [e s (by omega), e t (by omega)]
    · split
      · rename_i z
        have := bar_idx (mem_bars.mpr ⟨hp, z⟩)
        rw [e _ (by omega)]
      · rfl
structure RightG (D : Panel) (g : Nat → Bool) : Prop where
  sq : ∀ s, s < D.squares → ((dl D g s 0 != dl D g s 1) != (dl D g s 2 != dl D g s 3)) = false
  bar : ∀ p, p ∈ D.bars → g (D.squaresAt p).1 = g (D.squaresAt p).2
theorem right_congr (P : Pn D) {g h : Nat → Bool} (e : ∀ i, i < D.squares + D.bars.length → g i = h i) (R : RightG D g) : RightG D h := by
  refine ⟨fun s hs => ?_, fun p hp => ?_⟩
  · rw [← dl_congr e hs (by decide), ← dl_congr e hs (by decide), ← dl_congr e hs (by decide), ← dl_congr e hs (by decide)]
    exact R.sq s hs
  · have := squaresAt_lt P.w (mem_bars.mp hp).1
    rw [← e _ (by omega), ← e _ (by omega)]
    exact R.bar p hp
theorem bar_side {g : Nat → Bool} (R : RightG D g) {s k t : Nat} (hs : s < D.squares) (hk : k < 4) (h : D.beyond s k = some t) (z : D.state (D.placeOf s k) = 2) : g s = g t := by
  obtain ⟨hp, ha, _⟩ := at_place hs hk h
  have := R.bar _ (mem_bars.mpr ⟨hp, z⟩)
  rw [ha] at this
  split at this
  · exact this
  · exact this.symm
/-! ### corners -/
def cm (D : Panel) (g : Nat → Bool) (x : Nat) : Nat → Bool
  | 0 => false
  | y + 1 => cm D g x y != (if x = 0 ∨ D.wide ≤ x then false else dl D g (y * D.wide + (x - 1)) 1)
theorem cm_edge {g : Nat → Bool} {x : Nat} (h : x = 0 ∨ D.wide ≤ x) : ∀ y, cm D g x y = false
  | 0 => rfl
  | y + 1 => by
    show (cm D g x y != (if x = 0 ∨ D.wide ≤ x then false else _)) = false
    rw [cm_edge h y, if_pos h]
    rfl
section
variable {g : Nat → Bool}
theorem dl_right {y x : Nat} (hy : y < D.high) (hx : x < D.wide) : dl D g (y * D.wide + x) 1 = (cm D g (x + 1) y != cm D g (x + 1) (y + 1)) := by
  by_cases c : x + 1 < D.wide
  · show _ = (cm D g (x + 1) y != (cm D g (x + 1) y != (if x + 1 = 0 ∨ D.wide ≤ x + 1 then false else dl D g (y * D.wide + (x + 1 - 1)) 1)))
    rw [if_neg (by omega), Nat.add_sub_cancel]
    cases cm D g (x + 1) y <;> cases dl D g (y * D.wide + x) 1 <;> rfl
  · rw [cm_edge (.inr (by omega)), cm_edge (.inr (by omega)), dl_none]
    · rfl
    · rw [rc_beyond hx hy, if_neg (by decide), if_pos rfl, if_neg c]
theorem dl_left {y x : Nat} (hy : y < D.high) (hx : x < D.wide) : dl D g (y * D.wide + x) 3 = (cm D g x y != cm D g x (y + 1)) := by
  cases x with
  | zero =>
    rw [cm_edge (.inl rfl), cm_edge (.inl rfl), dl_none]
    · rfl
    · rw [rc_beyond hx hy, if_neg (by decide), if_neg (by decide), if_neg (by decide), if_neg (by omega)]
  | succ x =>
    have hb : D.beyond (y * D.wide + x) 1 = some (y * D.wide + (x + 1)) := by
      rw [rc_beyond (by omega) hy, if_neg (by decide), if_pos rfl, if_pos hx]
    have := dl_back (g := g) (rc_lt (by omega) hy) (by decide) hb
    rw [← dl_right hy (by omega)]
    exact this
theorem dl_level (R : RightG D g) {x : Nat} (hx : x < D.wide) : ∀ y, y < D.high → dl D g (y * D.wide + x) 0 = (cm D g x y != cm D g (x + 1) y) ∧ dl D g (y * D.wide + x) 2 = (cm D g x (y + 1) != cm D g (x + 1) (y + 1)) := by
  have fin : ∀ y, y < D.high → dl D g (y * D.wide + x) 0 = (cm D g x y != cm D g (x + 1) y) → dl D g (y * D.wide + x) 2 = (cm D g x (y + 1) != cm D g (x + 1) (y + 1)) := by
    intro y hy h0
    have r := R.sq _ (rc_lt hx hy)
    rw [h0, dl_right hy hx, dl_left hy hx] at r
    revert r
    generalize dl D g (y * D.wide + x) 2 = d
    generalize cm D g x y = a
    generalize cm D g (x + 1) y = b
    generalize cm D g x (y + 1) = a'
    generalize cm D g (x + 1) (y + 1) = b'
    revert d a b a' b'
    decide
  intro y
  induction y with
  | zero =>
    intro hy
    have h0 : dl D g (0 * D.wide + x) 0 = (cm D g x 0 != cm D g (x + 1) 0) := by
      rw [dl_none]
      · rfl
      · rw [rc_beyond hx hy, if_pos rfl, if_neg (by decide)]
    exact ⟨h0, fin 0 hy h0⟩
  | succ y ih =>
    intro hy
    have h0 : dl D g ((y + 1) * D.wide + x) 0 = (cm D g x (y + 1) != cm D g (x + 1) (y + 1)) := by
      have hb : D.beyond (y * D.wide + x) 2 = some ((y + 1) * D.wide + x) := by
        rw [rc_beyond hx (by omega), if_neg (by decide), if_neg (by decide), if_pos rfl, if_pos hy]
      have := dl_back (g := g) (rc_lt hx (by omega)) (by decide) hb
      rw [← (ih (by omega)).2]
      exact this
    exact ⟨h0, fin (y + 1) hy h0⟩
end
/-- a piece: its square's mark and its corner's -/
def dxc (k : Nat) : Nat := if k ≤ 1 then 1 else 0
def dyc (k : Nat) : Nat := if k = 1 ∨ k = 2 then 1 else 0
def px (D : Panel) (g : Nat → Bool) (i : Nat) : Bool := g (i / 4) != cm D g (D.col (i / 4) + dxc (i % 4)) (D.row (i / 4) + dyc (i % 4))
theorem px_at (g : Nat → Bool) {y x k : Nat} (hx : x < D.wide) (hk : k < 4) : px D g (4 * (y * D.wide + x) + k) = (g (y * D.wide + x) != cm D g (x + dxc k) (y + dyc k)) := by
  unfold px
  rw [show (4 * (y * D.wide + x) + k) / 4 = y * D.wide + x by omega, show (4 * (y * D.wide + x) + k) % 4 = k by omega, rc_col hx, rc_row hx]
theorem dl_px {g : Nat → Bool} (R : RightG D g) {s k : Nat} (hs : s < D.squares) (hk : k < 4) : dl D g s k = (px D g (4 * s + k) != px D g (4 * s + (k + 3) % 4)) := by
  obtain ⟨y, x, rfl, hx, hy⟩ := sq_split D hs
  obtain ⟨l0, l2⟩ := dl_level R hx y hy
  have l1 := dl_right (g := g) hy hx
  have l3 := dl_left (g := g) hy hx
  rw [px_at g hx hk, px_at g hx (Nat.mod_lt _ (by decide))]
  have ck : k = 0 ∨ k = 1 ∨ k = 2 ∨ k = 3 := by omega
  rcases ck with rfl | rfl | rfl | rfl
  · rw [l0]
    show _ = ((_ != cm D g (x + 1) y) != (_ != cm D g x y))
    cases g (y * D.wide + x) <;> cases cm D g x y <;> cases cm D g (x + 1) y <;> rfl
  · rw [l1]
    show _ = ((_ != cm D g (x + 1) (y + 1)) != (_ != cm D g (x + 1) y))
    cases g (y * D.wide + x) <;> cases cm D g (x + 1) y <;> cases cm D g (x + 1) (y + 1) <;> rfl
  · rw [l2]
    show _ = ((_ != cm D g x (y + 1)) != (_ != cm D g (x + 1) (y + 1)))
    cases g (y * D.wide + x) <;> cases cm D g x (y + 1) <;> cases cm D g (x + 1) (y + 1) <;> rfl
  · rw [l3]
    show _ = ((_ != cm D g x y) != (_ != cm D g x (y + 1)))
    cases g (y * D.wide + x) <;> cases cm D g x y <;> cases cm D g x (y + 1) <;> rfl
/-- corners of two squares beside one another -/
theorem px_beyond {g : Nat → Bool} {s k t : Nat} (hs : s < D.squares) (hk : k < 4) (h : D.beyond s k = some t) :
    (px D g (4 * t + ((k + 2) % 4 + 3) % 4) != g t) = (px D g (4 * s + k) != g s) ∧ (px D g (4 * t + (k + 2) % 4) != g t) = (px D g (4 * s + (k + 3) % 4) != g s) := by
  obtain ⟨y, x, rfl, hx, hy⟩ := sq_split D hs
  rw [px_at g hx hk, px_at g hx (Nat.mod_lt _ (by decide))]
  rw [rc_beyond hx hy] at h
  have fin : ∀ a b c : Bool, ((a != c) != a) = ((b != c) != b) := by decide
  have ck : k = 0 ∨ k = 1 ∨ k = 2 ∨ k = 3 := by omega
  rcases ck with rfl | rfl | rfl | rfl
  · rw [if_pos rfl] at h
    by_cases c : 0 < y
    · rw [if_pos c] at h
      cases h
      rw [px_at g hx (Nat.mod_lt _ (by decide)), px_at g hx (Nat.mod_lt _ (by decide))]
      obtain ⟨y, rfl⟩ : ∃ z, y = z + 1 := ⟨y - 1, by omega⟩
      rw [Nat.add_sub_cancel]
      exact ⟨fin _ _ _, fin _ _ _⟩
    · rw [if_neg c] at h; cases h
  · rw [if_neg (by decide), if_pos rfl] at h
    by_cases c : x + 1 < D.wide
    · rw [if_pos c] at h
      cases h
      rw [px_at g c (Nat.mod_lt _ (by decide)), px_at g c (Nat.mod_lt _ (by decide))]
      exact ⟨fin _ _ _, fin _ _ _⟩
    · rw [if_neg c] at h; cases h
  · rw [if_neg (by decide), if_neg (by decide), if_pos rfl] at h
    by_cases c : y + 1 < D.high
    · rw [if_pos c] at h
      cases h
      rw [px_at g hx (Nat.mod_lt _ (by decide)), px_at g hx (Nat.mod_lt _ (by decide))]
      exact ⟨fin _ _ _, fin _ _ _⟩
    · rw [if_neg c] at h; cases h
  · rw [if_neg (by decide), if_neg (by decide), if_neg (by decide)] at h
    by_cases c : 0 < x
    · rw [if_pos c] at h
      cases h
      rw [px_at g (by omega) (Nat.mod_lt _ (by decide)), px_at g (by omega) (Nat.mod_lt _ (by decide))]
      obtain ⟨x, rfl⟩ : ∃ z, x = z + 1 := ⟨x - 1, by omega⟩
      rw [Nat.add_sub_cancel]
      exact ⟨fin _ _ _, fin _ _ _⟩
    · rw [if_neg c] at h; cases h
/-- **right marks: of joined ends both pieces are of the set, or none** -/
theorem px_loc (P : Pn D) {g : Nat → Bool} (R : RightG D g) : Loc D (px D g) := by
  intro s k hs hk f
  have e := dl_px R hs hk
  rw [joined_at D f s k hk]
  have same : dl D g s k = false → px D g (pieceOf (endAt (!f) s k)) = px D g (pieceOf (endAt f s k)) := by
    intro z
    rw [z] at e
    cases f
    · rw [Bool.not_false, piece_f, piece_l]
      revert e
      cases px D g (4 * s + k) <;> cases px D g (4 * s + (k + 3) % 4) <;> decide
    · rw [Bool.not_true, piece_f, piece_l]
      revert e
      cases px D g (4 * s + k) <;> cases px D g (4 * s + (k + 3) % 4) <;> decide
  cases hb : D.beyond s k with
  | none => exact same (dl_none hb)
  | some t =>
    dsimp only
    have d := dl_some (g := g) hb
    obtain ⟨b1, b2⟩ := px_beyond (g := g) hs hk hb
    have hp := (at_place hs hk hb).1
    have hz := P.st _ hp
    have cs : D.state (D.placeOf s k) = 0 ∨ D.state (D.placeOf s k) = 1 ∨ D.state (D.placeOf s k) = 2 := by omega
    rcases cs with z | z | z
    · rw [if_neg (by omega), if_neg (by omega)]
      rw [if_pos z] at d
      rw [d] at e
      cases f
      · rw [piece_l, piece_l]
        revert e b1 b2
        generalize px D g (4 * s + k) = F
        generalize px D g (4 * s + (k + 3) % 4) = L
        generalize px D g (4 * t + (k + 2) % 4) = F'
        generalize px D g (4 * t + ((k + 2) % 4 + 3) % 4) = L'
        generalize g s = a
        generalize g t = b
        revert F L F' L' a b
        decide
      · rw [piece_f, piece_f]
        revert e b1 b2
        generalize px D g (4 * s + k) = F
        generalize px D g (4 * s + (k + 3) % 4) = L
        generalize px D g (4 * t + (k + 2) % 4) = F'
        generalize px D g (4 * t + ((k + 2) % 4 + 3) % 4) = L'
        generalize g s = a
        generalize g t = b
        revert F L F' L' a b
        decide
    · rw [if_pos z]
      rw [if_neg (by omega), if_neg (by omega)] at d
      exact same d
    · rw [if_neg (by omega), if_pos z]
      have q := bar_side R hs hk hb z
      rw [q] at b1 b2
      cases f
      · rw [Bool.not_false, piece_f, piece_l]
        revert b2
        generalize px D g (4 * s + (k + 3) % 4) = L
        generalize px D g (4 * t + (k + 2) % 4) = F'
        generalize g t = b
        revert L F' b
        decide
      · rw [Bool.not_true, piece_f, piece_l]
        revert b1
        generalize px D g (4 * s + k) = F
        generalize px D g (4 * t + ((k + 2) % 4 + 3) % 4) = L'
        generalize g t = b
        revert F L' b
        decide
/-- **right marks are told by their set** -/
theorem px_inj (P : Pn D) {g h : Nat → Bool} (R : RightG D g) (R' : RightG D h) (e : ∀ i, i < D.pieces → px D g i = px D h i) : ∀ i, i < D.squares + D.bars.length → g i = h i := by
  have inp : ∀ {y x k : Nat}, x < D.wide → y < D.high → k < 4 → 4 * (y * D.wide + x) + k < D.pieces := fun {y x k} hx hy hk => by
    have := rc_lt hx hy
    unfold Panel.pieces
    omega
  have col : ∀ x, x < D.wide → ∀ y, y < D.high → cm D g x y = cm D h x y ∧ g (y * D.wide + x) = h (y * D.wide + x) := by
    intro x
    have step : x < D.wide → ∀ y, y < D.high → cm D g x y = cm D h x y → g (y * D.wide + x) = h (y * D.wide + x) := by
      intro hx y hy ec
      have := e _ (inp hx hy (show 3 < 4 by decide))
      rw [px_at g hx (by decide), px_at h hx (by decide)] at this
      have t : (g (y * D.wide + x) != cm D g x y) = (h (y * D.wide + x) != cm D h x y) := this
      rw [ec] at t
      revert t
      cases g (y * D.wide + x) <;> cases h (y * D.wide + x) <;> cases cm D h x y <;> decide
    induction x with
    | zero =>
      intro hx y hy
      have ec : cm D g 0 y = cm D h 0 y := by rw [cm_edge (.inl rfl), cm_edge (.inl rfl)]
      exact ⟨ec, step hx y hy ec⟩
    | succ x ih =>
      intro hx y hy
      have i := ih (fun hx y hy ec => by
        have := e _ (inp hx hy (show 3 < 4 by decide))
        rw [px_at g hx (by decide), px_at h hx (by decide)] at this
        have t : (g (y * D.wide + x) != cm D g x y) = (h (y * D.wide + x) != cm D h x y) := this
        rw [ec] at t
        revert t
        cases g (y * D.wide + x) <;> cases h (y * D.wide + x) <;> cases cm D h x y <;> decide) (by omega) y hy
      have ec : cm D g (x + 1) y = cm D h (x + 1) y := by
        have := e _ (inp (show x < D.wide by omega) hy (show 0 < 4 by decide))
        rw [px_at g (by omega) (by decide), px_at h (by omega) (by decide)] at this
        have t : (g (y * D.wide + x) != cm D g (x + 1) y) = (h (y * D.wide + x) != cm D h (x + 1) y) := this
        rw [i.2] at t
        revert t
        cases h (y * D.wide + x) <;> cases cm D g (x + 1) y <;> cases cm D h (x + 1) y <;> decide
      exact ⟨ec, step hx y hy ec⟩
  intro i hi
  by_cases c : i < D.squares
  · obtain ⟨y, x, rfl, hx, hy⟩ := sq_split D c
    exact (col x hx y hy).2
  · obtain ⟨j, rfl⟩ : ∃ j, i = D.squares + j := ⟨i - D.squares, by omega⟩
    have hj : j < D.bars.length := by omega
    have hm : D.bars[j] ∈ D.bars := List.getElem_mem hj
    obtain ⟨hp, hz⟩ := mem_bars.mp hm
    obtain ⟨b1, b2⟩ := place_back P.w hp
    have hsq := squaresAt_lt P.w hp
    have hsd := sideAt_lt D D.bars[j]
    have ix : D.bars.idxOf D.bars[j] = j := List.Nodup.idxOf_getElem bars_nodup j hj
    have one : ∀ {u : Nat → Bool}, RightG D u → u (D.squares + j) = (px D u (4 * (D.squaresAt D.bars[j]).1 + D.sideAt D.bars[j]) != px D u (4 * (D.squaresAt D.bars[j]).1 + (D.sideAt D.bars[j] + 3) % 4)) := fun {u} U => by
      rw [← dl_px U hsq.1 hsd, dl_some b1, b2, if_neg (by omega), if_pos hz, ix]
    have lt : ∀ k, k < 4 → 4 * (D.squaresAt D.bars[j]).1 + k < D.pieces := fun k hk => by
      unfold Panel.pieces
      omega
    rw [one R, one R', e _ (lt _ hsd), e _ (lt _ (Nat.mod_lt _ (by decide)))]
/-! ### the marks of a set -/
/-- a row's squares, from the left -/
def qv (D : Panel) (x : Nat → Bool) (y : Nat) : Nat → Bool
  | 0 => x (4 * (y * D.wide) + 3)
  | c + 1 => qv D x y c != (x (4 * (y * D.wide + c)) != x (4 * (y * D.wide + (c + 1)) + 3))
def bv (D : Panel) (x : Nat → Bool) (p : Nat) : Bool := x (4 * (D.squaresAt p).1 + D.sideAt p) != x (4 * (D.squaresAt p).1 + (D.sideAt p + 3) % 4)
def gv (D : Panel) (x : Nat → Bool) (i : Nat) : Bool := if i < D.squares then qv D x (D.row i) (D.col i) else bv D x (D.bars.getD (i - D.squares) 0)
theorem gv_sq (x : Nat → Bool) {y c : Nat} (hc : c < D.wide) (hy : y < D.high) : gv D x (y * D.wide + c) = qv D x y c := by
  unfold gv
  rw [if_pos (rc_lt hc hy), rc_row hc, rc_col hc]
theorem gv_bar (x : Nat → Bool) {p : Nat} (hp : p ∈ D.bars) : gv D x (D.squares + D.bars.idxOf p) = bv D x p := by
  unfold gv
  rw [if_neg (by omega), Nat.add_sub_cancel_left, List.getD_eq_getElem?_getD, List.getElem?_eq_getElem (bar_idx hp), List.getElem_idxOf]
  rfl
section
variable {x : Nat → Bool} (P : Pn D) (L : Loc D x)
include P L
/-- the corners of two squares of a row -/
theorem q_row {y c : Nat} (hc : c + 1 < D.wide) (hy : y < D.high) : (qv D x y c != x (4 * (y * D.wide + c) + 0)) = (qv D x y (c + 1) != x (4 * (y * D.wide + (c + 1)) + 3)) ∧ (qv D x y c != x (4 * (y * D.wide + c) + 1)) = (qv D x y (c + 1) != x (4 * (y * D.wide + (c + 1)) + 2)) := by
  have hb : D.beyond (y * D.wide + c) 1 = some (y * D.wide + (c + 1)) := by
    rw [rc_beyond (by omega) hy, if_neg (by decide), if_pos rfl, if_pos hc]
  have k : (x (4 * (y * D.wide + c) + 1) != x (4 * (y * D.wide + c) + 0)) = (x (4 * (y * D.wide + (c + 1)) + 3) != x (4 * (y * D.wide + (c + 1)) + 2)) := cyc P L (rc_lt (by omega) hy) (by decide) hb
  have d : qv D x y (c + 1) = (qv D x y c != (x (4 * (y * D.wide + c) + 0) != x (4 * (y * D.wide + (c + 1)) + 3))) := rfl
  rw [d]
  revert k
  generalize qv D x y c = q
  generalize x (4 * (y * D.wide + c) + 1) = a
  generalize x (4 * (y * D.wide + c) + 0) = b
  generalize x (4 * (y * D.wide + (c + 1)) + 3) = a'
  generalize x (4 * (y * D.wide + (c + 1)) + 2) = b'
  revert q a b a' b'
  decide
/-- the corners of two squares one below the other -/
theorem q_col {y : Nat} (hy : y + 1 < D.high) : ∀ c, c < D.wide → (qv D x y c != x (4 * (y * D.wide + c) + 2)) = (qv D x (y + 1) c != x (4 * ((y + 1) * D.wide + c) + 3)) ∧ (qv D x y c != x (4 * (y * D.wide + c) + 1)) = (qv D x (y + 1) c != x (4 * ((y + 1) * D.wide + c) + 0)) := by
  have fin : ∀ c, c < D.wide → (qv D x y c != x (4 * (y * D.wide + c) + 2)) = (qv D x (y + 1) c != x (4 * ((y + 1) * D.wide + c) + 3)) → (qv D x y c != x (4 * (y * D.wide + c) + 1)) = (qv D x (y + 1) c != x (4 * ((y + 1) * D.wide + c) + 0)) := by
    intro c hc h
    have hb : D.beyond (y * D.wide + c) 2 = some ((y + 1) * D.wide + c) := by
      rw [rc_beyond hc (by omega), if_neg (by decide), if_neg (by decide), if_pos rfl, if_pos hy]
    have k : (x (4 * (y * D.wide + c) + 2) != x (4 * (y * D.wide + c) + 1)) = (x (4 * ((y + 1) * D.wide + c) + 0) != x (4 * ((y + 1) * D.wide + c) + 3)) := cyc P L (rc_lt hc (by omega)) (by decide) hb
    revert k h
    generalize qv D x y c = q
    generalize qv D x (y + 1) c = q'
    generalize x (4 * (y * D.wide + c) + 2) = a
    generalize x (4 * (y * D.wide + c) + 1) = b
    generalize x (4 * ((y + 1) * D.wide + c) + 0) = a'
    generalize x (4 * ((y + 1) * D.wide + c) + 3) = b'
    revert q q' a b a' b'
    decide
  intro c
  induction c with
  | zero =>
    intro hc
    have h : (qv D x y 0 != x (4 * (y * D.wide + 0) + 2)) = (qv D x (y + 1) 0 != x (4 * ((y + 1) * D.wide + 0) + 3)) := by
      have hb : D.beyond (y * D.wide + 0) 3 = none := by
        rw [rc_beyond hc (by omega), if_neg (by decide), if_neg (by decide), if_neg (by decide), if_neg (by decide)]
      have k : x (4 * (y * D.wide + 0) + 3) = x (4 * (y * D.wide + 0) + 2) := side_none L (rc_lt hc (by omega)) (by decide) hb
      show (x (4 * (y * D.wide + 0) + 3) != _) = (x (4 * ((y + 1) * D.wide + 0) + 3) != _)
      rw [k]
      cases x (4 * (y * D.wide + 0) + 2) <;> cases x (4 * ((y + 1) * D.wide + 0) + 3) <;> rfl
    exact ⟨h, fin 0 hc h⟩
  | succ c ih =>
    intro hc
    have h : (qv D x y (c + 1) != x (4 * (y * D.wide + (c + 1)) + 2)) = (qv D x (y + 1) (c + 1) != x (4 * ((y + 1) * D.wide + (c + 1)) + 3)) := by
      rw [← (q_row P L hc (show y < D.high by omega)).2, ← (q_row P L hc hy).1]
      exact (ih (by omega)).2
    exact ⟨h, fin (c + 1) hc h⟩
/-- two squares beside one another, on a right or lower side -/
theorem gv_side {s k t : Nat} (hs : s < D.squares) (hk : k = 1 ∨ k = 2) (h : D.beyond s k = some t) : (gv D x s != gv D x t) = (if k = 1 then x (4 * s + (k + 3) % 4) != x (4 * t + (k + 2) % 4) else x (4 * s + k) != x (4 * t + ((k + 2) % 4 + 3) % 4)) := by
  obtain ⟨y, c, rfl, hc, hy⟩ := sq_split D hs
  rw [rc_beyond hc hy] at h
  rcases hk with rfl | rfl
  · rw [if_neg (by decide), if_pos rfl] at h
    by_cases z : c + 1 < D.wide
    · rw [if_pos z] at h
      cases h
      rw [gv_sq x hc hy, gv_sq x z hy, if_pos rfl]
      have q := (q_row P L z hy).1
      show _ = (x (4 * (y * D.wide + c) + 0) != x (4 * (y * D.wide + (c + 1)) + 3))
      revert q
      generalize qv D x y c = q
      generalize qv D x y (c + 1) = q'
      generalize x (4 * (y * D.wide + c) + 0) = a
      generalize x (4 * (y * D.wide + (c + 1)) + 3) = b
      revert q q' a b
      decide
    · rw [if_neg z] at h; cases h
  · rw [if_neg (by decide), if_neg (by decide), if_pos rfl] at h
    by_cases z : y + 1 < D.high
    · rw [if_pos z] at h
      cases h
      rw [gv_sq x hc hy, gv_sq x hc z, if_neg (by decide)]
      have q := (q_col P L z c hc).1
      show _ = (x (4 * (y * D.wide + c) + 2) != x (4 * ((y + 1) * D.wide + c) + 3))
      revert q
      generalize qv D x y c = q
      generalize qv D x (y + 1) c = q'
      generalize x (4 * (y * D.wide + c) + 2) = a
      generalize x (4 * ((y + 1) * D.wide + c) + 3) = b
      revert q q' a b
      decide
    · rw [if_neg z] at h; cases h
theorem gv_zero {s k t : Nat} (hs : s < D.squares) (hk : k = 1 ∨ k = 2) (h : D.beyond s k = some t) (z : D.state (D.placeOf s k) = 0) : (gv D x s != gv D x t) = (x (4 * s + k) != x (4 * s + (k + 3) % 4)) := by
  rw [gv_side P L hs hk h]
  obtain ⟨a, b⟩ := side_zero L hs (by omega) h z
  split
  · rw [← a]
    cases x (4 * s + k) <;> cases x (4 * s + (k + 3) % 4) <;> rfl
  · rw [← b]
theorem gv_two {s k t : Nat} (hs : s < D.squares) (hk : k = 1 ∨ k = 2) (h : D.beyond s k = some t) (z : D.state (D.placeOf s k) = 2) : gv D x s = gv D x t := by
  have e := gv_side P L hs hk h
  obtain ⟨a, b⟩ := side_two L hs (by omega) h z
  rw [← a, ← b] at e
  revert e
  split
  · cases gv D x s <;> cases gv D x t <;> cases x (4 * s + (k + 3) % 4) <;> decide
  · cases gv D x s <;> cases gv D x t <;> cases x (4 * s + k) <;> decide
theorem dl_gv {s k : Nat} (hs : s < D.squares) (hk : k < 4) : dl D (gv D x) s k = (x (4 * s + k) != x (4 * s + (k + 3) % 4)) := by
  have main : ∀ {s k : Nat}, s < D.squares → (k = 1 ∨ k = 2) → ∀ t, D.beyond s k = some t → dl D (gv D x) s k = (x (4 * s + k) != x (4 * s + (k + 3) % 4)) := by
    intro s k hs hk t hb
    have hk4 : k < 4 := by omega
    obtain ⟨hp, ha, hsd⟩ := at_place hs hk4 hb
    have hz := P.st _ hp
    rw [dl_some hb]
    have cs : D.state (D.placeOf s k) = 0 ∨ D.state (D.placeOf s k) = 1 ∨ D.state (D.placeOf s k) = 2 := by omega
    rcases cs with z | z | z
    · rw [if_pos z]
      exact gv_zero P L hs hk hb z
    · rw [if_neg (by omega), if_neg (by omega), side_one L hs hk4 hb z]
      cases x (4 * s + (k + 3) % 4) <;> rfl
    · rw [if_neg (by omega), if_pos z, gv_bar x (mem_bars.mpr ⟨hp, z⟩)]
      unfold bv
      rw [ha, if_pos hk, hsd]
      rcases hk with rfl | rfl
      · rfl
      · rfl
  cases hb : D.beyond s k with
  | none =>
    rw [dl_none hb, side_none L hs hk hb]
    cases x (4 * s + (k + 3) % 4) <;> rfl
  | some t =>
    by_cases c : k = 1 ∨ k = 2
    · exact main hs c t hb
    · obtain ⟨ht, hb', hpl, _⟩ := beyond_back hs hk hb
      have ck : k = 0 ∨ k = 3 := by omega
      rw [← dl_back hs hk hb, cyc P L hs hk hb]
      exact main ht (by omega) s hb'
/-- **the marks of a set are right** -/
theorem gv_right : RightG D (gv D x) := by
  refine ⟨fun s hs => ?_, fun p hp => ?_⟩
  · rw [dl_gv P L hs (by decide), dl_gv P L hs (by decide), dl_gv P L hs (by decide), dl_gv P L hs (by decide)]
    show (((x (4 * s + 0) != x (4 * s + 3)) != (x (4 * s + 1) != x (4 * s + 0))) != ((x (4 * s + 2) != x (4 * s + 1)) != (x (4 * s + 3) != x (4 * s + 2)))) = false
    cases x (4 * s + 0) <;> cases x (4 * s + 1) <;> cases x (4 * s + 2) <;> cases x (4 * s + 3) <;> rfl
  · obtain ⟨hc, hz⟩ := mem_bars.mp hp
    obtain ⟨b1, b2⟩ := place_back P.w hc
    have hsq := squaresAt_lt P.w hc
    refine gv_two P L hsq.1 ?_ b1 (by rw [b2]; exact hz)
    unfold Panel.sideAt
    split
    · exact .inl rfl
    · exact .inr rfl
end
/-- **a set is told by its marks** -/
theorem gv_inj {x z : Nat → Bool} (P : Pn D) (L : Loc D x) (L' : Loc D z) (e : ∀ i, i < D.squares + D.bars.length → gv D x i = gv D z i) : ∀ i, i < D.pieces → x i = z i := by
  have sqr : ∀ s, s < D.squares → x (4 * s + 3) = z (4 * s + 3) → ∀ k, k < 4 → x (4 * s + k) = z (4 * s + k) := by
    intro s hs h3 k hk
    have d : ∀ k, k < 4 → (x (4 * s + k) != x (4 * s + (k + 3) % 4)) = (z (4 * s + k) != z (4 * s + (k + 3) % 4)) := fun k hk => by
      rw [← dl_gv P L hs hk, ← dl_gv P L' hs hk]
      exact dl_congr e hs hk
    have d0 : (x (4 * s + 0) != x (4 * s + 3)) = (z (4 * s + 0) != z (4 * s + 3)) := d 0 (by decide)
    have d1 : (x (4 * s + 1) != x (4 * s + 0)) = (z (4 * s + 1) != z (4 * s + 0)) := d 1 (by decide)
    have d2 : (x (4 * s + 2) != x (4 * s + 1)) = (z (4 * s + 2) != z (4 * s + 1)) := d 2 (by decide)
    have t : ∀ a b c : Bool, (a != c) = (b != c) → a = b := by decide
    rw [h3] at d0
    have h0 := t _ _ _ d0
    rw [h0] at d1
    have h1 := t _ _ _ d1
    rw [h1] at d2
    have h2 := t _ _ _ d2
    have ck : k = 0 ∨ k = 1 ∨ k = 2 ∨ k = 3 := by omega
    rcases ck with rfl | rfl | rfl | rfl
    · exact h0
    · exact h1
    · exact h2
    · exact h3
  have row : ∀ y, y < D.high → ∀ c, c < D.wide → x (4 * (y * D.wide + c) + 3) = z (4 * (y * D.wide + c) + 3) := by
    intro y hy c
    have q : ∀ c, c < D.wide → qv D x y c = qv D z y c := fun c hc => by
      rw [← gv_sq x hc hy, ← gv_sq z hc hy]
      have := rc_lt hc hy
      exact e _ (by omega)
    induction c with
    | zero => intro hc; exact q 0 hc
    | succ c ih =>
      intro hc
      have h0 := sqr _ (rc_lt (show c < D.wide by omega) hy) (ih (by omega)) 0 (by decide)
      have h1 : (qv D x y c != (x (4 * (y * D.wide + c) + 0) != x (4 * (y * D.wide + (c + 1)) + 3))) = (qv D z y c != (z (4 * (y * D.wide + c) + 0) != z (4 * (y * D.wide + (c + 1)) + 3))) := q (c + 1) hc
      rw [q c (by omega), h0] at h1
      revert h1
      generalize qv D z y c = a
      generalize z (4 * (y * D.wide + c) + 0) = b
      generalize x (4 * (y * D.wide + (c + 1)) + 3) = u
      generalize z (4 * (y * D.wide + (c + 1)) + 3) = v
      revert a b u v
      decide
  intro i hi
  have hs : i / 4 < D.squares := by unfold Panel.pieces at hi; omega
  have e4 : i = 4 * (i / 4) + i % 4 := by omega
  rw [e4]
  refine sqr _ hs ?_ _ (Nat.mod_lt _ (by decide))
  obtain ⟨y, c, ey, hc, hy⟩ := sq_split D hs
  rw [ey]
  exact row y hy c hc
end
end Il

namespace Il
open Plait PlaitP
section
variable (D : Panel)
def chN (p : Nat) : Nat := if D.state p = 0 then 2 ^ (D.squaresAt p).1 ^^^ 2 ^ (D.squaresAt p).2 else if D.state p = 2 then 2 ^ (D.squares + D.bars.idxOf p) else 0
def arN (n s : Nat) : Nat := ((List.range n).filter (adj D s)).foldl (fun acc p => acc ^^^ chN D p) 0
def bsN (p : Nat) : Nat := 2 ^ (D.squaresAt p).1 ^^^ 2 ^ (D.squaresAt p).2
def rulesN : List Nat := (List.range D.squares).map (arN D D.count) ++ D.bars.map (bsN D)
abbrev NMd : Nat := D.squares + D.bars.length
theorem arN_succ (n s : Nat) : arN D (n + 1) s = if adj D s n = true then arN D n s ^^^ chN D n else arN D n s := by
  unfold arN
  rw [List.range_succ, List.filter_append, List.foldl_append, List.filter_cons, List.filter_nil]
  split <;> rfl
def chG (g : Nat → Bool) (p : Nat) : Bool := if D.state p = 0 then g (D.squaresAt p).1 != g (D.squaresAt p).2 else if D.state p = 2 then g (D.squares + D.bars.idxOf p) else false
variable {D}
theorem pow_lt {i : Nat} (h : i < NMd D) : 2 ^ i < 2 ^ NMd D := Nat.pow_lt_pow_right (by decide) h
theorem bsN_lt (P : Pn D) {p : Nat} (hp : p < D.count) : bsN D p < 2 ^ NMd D := by
  have := squaresAt_lt P.w hp
  exact Nat.xor_lt_two_pow (pow_lt (by show _ < D.squares + _; omega)) (pow_lt (by show _ < D.squares + _; omega))
theorem chN_lt (P : Pn D) {p : Nat} (hp : p < D.count) : chN D p < 2 ^ NMd D := by
  unfold chN
  split
  · exact bsN_lt P hp
  · split
    · rename_i z
      have := bar_idx (mem_bars.mpr ⟨hp, z⟩)
      exact pow_lt (by show _ < D.squares + _; omega)
    · exact Nat.two_pow_pos _
theorem arN_lt (P : Pn D) (s : Nat) : ∀ n, n ≤ D.count → arN D n s < 2 ^ NMd D
  | 0, _ => Nat.two_pow_pos _
  | n + 1, h => by
    rw [arN_succ]
    split
    · exact Nat.xor_lt_two_pow (arN_lt P s n (by omega)) (chN_lt P (by omega))
    · exact arN_lt P s n (by omega)
theorem rules_lt (P : Pn D) : ∀ v ∈ rulesN D, v < 2 ^ NMd D := by
  intro v hv
  rcases List.mem_append.mp hv with m | m
  · obtain ⟨s, _, rfl⟩ := List.mem_map.mp m
    exact arN_lt P s _ (Nat.le_refl _)
  · obtain ⟨p, hp, rfl⟩ := List.mem_map.mp m
    exact bsN_lt P (mem_bars.mp hp).1
theorem dot_bs (P : Pn D) (g : Nat → Bool) {p : Nat} (hp : p < D.count) : dot (NMd D) (bsN D p) g = (g (D.squaresAt p).1 != g (D.squaresAt p).2) := by
  have := squaresAt_lt P.w hp
  unfold bsN
  rw [dot_xor, dot_pow, dot_pow, decide_eq_true (show _ < D.squares + _ by omega), decide_eq_true (show _ < D.squares + _ by omega), Bool.true_and, Bool.true_and]
theorem dot_ch (P : Pn D) (g : Nat → Bool) {p : Nat} (hp : p < D.count) : dot (NMd D) (chN D p) g = chG D g p := by
  unfold chN chG
  split
  · exact dot_bs P g hp
  · split
    · rename_i z
      have := bar_idx (mem_bars.mpr ⟨hp, z⟩)
      rw [dot_pow, decide_eq_true (show _ < D.squares + _ by omega), Bool.true_and]
    · exact dot_zero g _
theorem dot_ar (P : Pn D) (g : Nat → Bool) (s : Nat) : ∀ n, n ≤ D.count → dot (NMd D) (arN D n s) g = odd ((List.range n).filter fun p => adj D s p && chG D g p).length
  | 0, _ => dot_zero g _
  | n + 1, h => by
    have ih := dot_ar P g s n (by omega)
    rw [arN_succ, List.range_succ, List.filter_append, List.length_append, List.filter_cons, List.filter_nil]
    cases adj D s n with
    | false =>
      rw [if_neg (by decide), ih]
      rfl
    | true =>
      rw [if_pos rfl, dot_xor, ih, dot_ch P g (by omega)]
      cases chG D g n with
      | false =>
        show (_ != false) = odd (_ + 0)
        rw [Bool.bne_false, Nat.add_zero]
      | true =>
        show (_ != true) = odd (_ + 1)
        rw [odd_succ]
theorem dl_chG {g : Nat → Bool} {s k : Nat} (hs : s < D.squares) (hk : k < 4) : ((D.beyond s k).isSome && chG D g (D.placeOf s k)) = dl D g s k := by
  cases hb : D.beyond s k with
  | none => rw [dl_none hb]; rfl
  | some t =>
    obtain ⟨hp, ha, _⟩ := at_place hs hk hb
    rw [dl_some hb, Option.isSome_some, Bool.true_and]
    unfold chG
    rw [ha]
    split
    · split
      · rfl
      · dsimp only
        cases g s <;> cases g t <;> rfl
    · rfl
theorem odd4 (f : Nat → Bool) : odd ((List.range 4).filter f).length = ((f 0 != f 1) != (f 2 != f 3)) := by
  have e : List.range 4 = [0, 1, 2, 3] := rfl
  rw [e]
  simp only [List.filter_cons, List.filter_nil]
  cases f 0 <;> cases f 1 <;> cases f 2 <;> cases f 3 <;> rfl
theorem dot_sq (P : Pn D) (g : Nat → Bool) {s : Nat} (hs : s < D.squares) : dot (NMd D) (arN D D.count s) g = ((dl D g s 0 != dl D g s 1) != (dl D g s 2 != dl D g s 3)) := by
  rw [dot_ar P g s _ (Nat.le_refl _), ← sides_places P.w hs, odd4, dl_chG hs (by decide), dl_chG hs (by decide), dl_chG hs (by decide), dl_chG hs (by decide)]
theorem rules_right (P : Pn D) (g : Nat → Bool) : (∀ v ∈ rulesN D, dot (NMd D) v g = false) ↔ RightG D g := by
  constructor
  · intro h
    refine ⟨fun s hs => ?_, fun p hp => ?_⟩
    · rw [← dot_sq P g hs]
      exact h _ (List.mem_append_left _ (List.mem_map.mpr ⟨s, List.mem_range.mpr hs, rfl⟩))
    · have := h _ (List.mem_append_right _ (List.mem_map.mpr ⟨p, hp, rfl⟩))
      rw [dot_bs P g (mem_bars.mp hp).1] at this
      revert this
      cases g (D.squaresAt p).1 <;> cases g (D.squaresAt p).2 <;> decide
  · intro R v hv
    rcases List.mem_append.mp hv with m | m
    · obtain ⟨s, hs, rfl⟩ := List.mem_map.mp m
      rw [dot_sq P g (List.mem_range.mp hs)]
      exact R.sq s (List.mem_range.mp hs)
    · obtain ⟨p, hp, rfl⟩ := List.mem_map.mp m
      rw [dot_bs P g (mem_bars.mp hp).1, R.bar p hp]
      cases g (D.squaresAt p).2 <;> rfl
theorem mem_ker (P : Pn D) {m : Nat} : m ∈ kerL (NMd D) (rulesN D) ↔ m < 2 ^ NMd D ∧ RightG D m.testBit := by
  rw [mem_kerL, rules_right P]
theorem head_get {k : Nat} (h : k < D.traced.count) : ∃ i, D.traced.heads.getD k 0 = i ∧ i < D.pieces ∧ D.leastOf i = i ∧ D.traced.heads[k]? = some i := by
  have hg : D.traced.heads[k]? = some (D.traced.heads[k]'h) := List.getElem?_eq_getElem h
  have hm := (mem_heads D).mp (List.mem_of_getElem? hg)
  exact ⟨_, by rw [List.getD_eq_getElem?_getD, hg]; rfl, hm.1, hm.2, hg⟩
/-- **there are as many right marks as sets of strands** -/
theorem ker_sets (P : Pn D) : (kerL (NMd D) (rulesN D)).length = 2 ^ D.traced.count := by
  refine Nat.le_antisymm ?_ ?_
  · have e : ((kerL (NMd D) (rulesN D)).map fun m => code (fun k => px D m.testBit (D.traced.heads.getD k 0)) D.traced.count).length = (kerL (NMd D) (rulesN D)).length := List.length_map _
    have r : (List.range (2 ^ D.traced.count)).length = 2 ^ D.traced.count := List.length_range
    rw [← e, ← r]
    refine len_sub (nodup_map (kerL_nodup _ _) fun a ha b hb h => ?_) fun y hy => ?_
    · obtain ⟨al, ar⟩ := (mem_ker P).mp ha
      obtain ⟨bl, br⟩ := (mem_ker P).mp hb
      refine bits_eq al bl (px_inj P ar br fun i hi => ?_)
      have hs := strandOf_lt D hi
      have hh := strandOf_head D hi
      have hg : D.traced.heads.getD (D.traced.strandOf i) 0 = D.leastOf i := by rw [List.getD_eq_getElem?_getD, hh]; rfl
      have t := congrArg (fun z => Nat.testBit z (D.traced.strandOf i)) h
      rw [code_bit, code_bit, decide_eq_true hs, Bool.true_and, Bool.true_and, hg] at t
      rw [loc_least (px_loc P ar) hi, loc_least (px_loc P br) hi]
      exact t
    · obtain ⟨m, _, rfl⟩ := List.mem_map.mp hy
      exact List.mem_range.mpr (code_lt _ _)
  · have e : ((List.range (2 ^ D.traced.count)).map fun t => code (gv D fun i => t.testBit (D.traced.strandOf i)) (NMd D)).length = 2 ^ D.traced.count := by rw [List.length_map, List.length_range]
    rw [← e]
    have cb : ∀ g : Nat → Bool, ∀ i, i < NMd D → g i = (code g (NMd D)).testBit i := fun g i hi => by
      rw [code_bit, decide_eq_true hi, Bool.true_and]
    refine len_sub (nodup_map List.nodup_range fun a ha b hb h => ?_) fun y hy => ?_
    · refine bits_eq (List.mem_range.mp ha) (List.mem_range.mp hb) fun k hk => ?_
      have gi := gv_inj P (loc_set (D := D) a.testBit) (loc_set (D := D) b.testBit) fun i hi => by
        rw [cb (gv D _) i hi, cb (gv D fun i => b.testBit _) i hi, h]
      obtain ⟨i, _, hi, hl, hg⟩ := head_get hk
      have := gi i hi
      have es : D.traced.strandOf i = k := by
        have hh := strandOf_head D hi
        rw [hl] at hh
        obtain ⟨h1, h1'⟩ := List.getElem?_eq_some_iff.mp hh
        obtain ⟨h2, h2'⟩ := List.getElem?_eq_some_iff.mp hg
        have a1 := List.Nodup.idxOf_getElem (heads_nodup D) _ h1
        have a2 := List.Nodup.idxOf_getElem (heads_nodup D) _ h2
        rw [h1'] at a1
        rw [h2'] at a2
        exact a1.symm.trans a2
      rw [es] at this
      exact this
    · obtain ⟨t, _, rfl⟩ := List.mem_map.mp hy
      exact (mem_ker P).mpr ⟨code_lt _ _, right_congr P (cb _) (gv_right P (loc_set (D := D) t.testBit))⟩
/-- **as many marks are free as there are strands** -/
theorem free_strands (P : Pn D) : D.traced.count + (elim (rulesN D)).length = NMd D := elim_count (rules_lt P) (ker_sets P)
end
end Il

set_option linter.all false
set_option maxRecDepth 100000
namespace Il
open PySem PySem.Spec PyProof.Rows L2 L3
/-! ### free marks -/
def sp_list_powers (K : PySem.W.Frag) : Sp := fun vs H Q _ => ∃ (n : Nat), vs = [.int n] ∧ (n ≤ 2000 ∧ NewL Q H (ofN ((List.range n).map fun i => 2 ^ i)))
theorem ln_list_powers {K : PySem.W.Frag} {vs : List V} {H : Hp} {Q : VK} {E : XK} (h : sp_list_powers K vs H Q E) : vs.length = 1 := by obtain ⟨_, rfl, _⟩ := h; rfl
def sp_count_independent (K : PySem.W.Frag) : Sp := fun vs H Q _ => ∃ (a : Addr) (ws : List Nat), vs = [.ref a] ∧ (H a = some (.lst ((ofN ws).map V.int)) ∧ ws.length ≤ 2000 ∧ ∀ H', Same H H' → Q (.int ((elim ws).length : Nat)) H')
theorem ln_count_independent {K : PySem.W.Frag} {vs : List V} {H : Hp} {Q : VK} {E : XK} (h : sp_count_independent K vs H Q E) : vs.length = 1 := by obtain ⟨_, _, rfl, _⟩ := h; rfl
def sp_count_free (K : PySem.W.Frag) : Sp := fun vs H Q _ => ∃ (a : Addr) (b : List Int), vs = [.ref a] ∧ (PAt K H a b ∧ ∀ H', Same H H' → Q (.int ((panel b).traced.count : Nat)) H')
theorem ln_count_free {K : PySem.W.Frag} {vs : List V} {H : Hp} {Q : VK} {E : XK} (h : sp_count_free K vs H Q E) : vs.length = 1 := by obtain ⟨_, _, rfl, _⟩ := h; rfl
def sp_free (K : PySem.W.Frag) : Sp := fun vs H Q _ => ∃ (a : Addr) (b : List Int), vs = [.ref a] ∧ (BAt K H a b ∧ Ans Q (PyWqbacf.free b))
theorem ln_free {K : PySem.W.Frag} {vs : List V} {H : Hp} {Q : VK} {E : XK} (h : sp_free K vs H Q E) : vs.length = 1 := by obtain ⟨_, _, rfl, _⟩ := h; rfl
def t_list_powers (K : PySem.W.Frag) : TS :=
  (tSeq (tAsg (tLst tNil) (gName 1))
    (tSeq (tAsg (tC (.int 1)) (gName 2))
    (tSeq (tWhile (tTest (tOp (rI0 fun i j => .bl (decide (i < j))) (tCB (rLen K) (tCons (tVar 1) tNil)) (tVar 0))) (tSeq (tDrop (tBM K "list" (rAppend) (tVar 1) (tCons (tVar 2) tNil)))
    (tAsg (tOp (rI CMul fun i j => .int (i * j)) (tC (.int 2)) (tVar 2)) (gName 2))))
    (tRet (tVar 1)))))
def t_count_independent (K : PySem.W.Frag) : TS :=
  (tSeq (tAsg (tLst tNil) (gName 1))
    (tSeq (tFor (iList K (tVar 0)) (gName 2) (tSeq (tAsg (tVar 2) (gName 3))
    (tSeq (tFor (iList K (tVar 1)) (gName 4) (tAsg (tCB (rMin2) (tCons (tVar 3) (tCons (tOp (rI0 fun i j => .int (Builtin.bitXor i j)) (tVar 3) (tVar 4)) tNil))) (gName 3)))
    (tIfS (tTest (tOp (rI0 fun i j => .bl (decide (j < i))) (tVar 3) (tC (.int 0)))) (tDrop (tBM K "list" (rAppend) (tVar 1) (tCons (tVar 3) tNil))) tNext))))
    (tRet (tCB (rLen K) (tCons (tVar 1) tNil)))))
def t_count_free (K : PySem.W.Frag) : TS :=
  (tSeq (tAsg (tOwn (sp_list_powers K) (tCons (tOwn (sp_count_marks K) (tCons (tVar 0) tNil)) tNil)) (gName 1))
    (tRet (tOp (rI0 fun i j => .int (i - j)) (tCB (rLen K) (tCons (tVar 1) tNil)) (tOwn (sp_count_independent K) (tCons (tOp rCat (tOwn (sp_add_around K) (tCons (tVar 0) (tCons (tVar 1) tNil))) (tOwn (sp_add_beside K) (tCons (tVar 0) (tCons (tVar 1) tNil)))) tNil)))))
def t_free (K : PySem.W.Frag) : TS :=
  (tSeq (tAsg (tOwn (sp_find_refusal K) (tCons (tVar 0) tNil)) (gName 1))
    (tSeq (tIfS (tTest (tOp (rI0 fun i j => .bl (decide (i < j))) (tVar 1) (tC (.int 0)))) (tRet (tLst (tCons (tVar 1) tNil))) tNext)
    (tRet (tLst (tCons (tOwn (sp_count_free K) (tCons (tVar 0) tNil)) tNil)))))
theorem xorN (a b : Nat) : Builtin.bitXor (a : Int) (b : Int) = ((a ^^^ b : Nat) : Int) := by
  rw [PyProof.Rows.bitXor_and, PyProof.Rows.bitAnd_pp (by omega) (by omega), Int.toNat_natCast, Int.toNat_natCast]
  have := xor_and_sum a b
  omega
theorem rd_list_powers {K : PySem.W.Frag} {vs : List V} {H : Hp} {Q : VK} {E : XK} (h : sp_list_powers K vs H Q E) : t_list_powers K { nx := fun _ H' => Q .non H', rt := Q } (start ["count", "powers", "power"] vs) H := by
  obtain ⟨n, rfl, ⟨hn, q⟩⟩ := h
  show t_list_powers K _ [some (.int n), none, none] H
  unfold t_list_powers
  walk_at "go"
  rename_i l1 H1 n1 s1 e1
  refine R_while (fun M σ H' => ∃ j, M = n - j ∧ j ≤ n ∧ σ = [some (.int n), some (.ref l1), some (.int ((2 ^ j : Nat) : Int))] ∧ Same H H' ∧ H' l1 = some (.lst ((ofN ((List.range j).map fun i => 2 ^ i)).map V.int)))
    ⟨_, 0, rfl, Nat.zero_le _, rfl, s1, e1⟩ ?_
  rintro M σ H' ⟨j, rfl, jn, rfl, s, e⟩
  have hq : SqL K H' l1 ((ofN ((List.range j).map fun i => 2 ^ i)).map V.int) := SqL.of e
  walk_at "go"
  rw [List.length_map, List.length_map, List.length_range]
  walk_at "if"
  · rename_i c
    refine ⟨_, fun _ _ z => z, ?_⟩
    walk_at "go"
    refine ⟨ty_list hq, ?_⟩
    walk_at "go"
    refine R_append e (by rw [sizeLine_eq]; simp only [List.length_map, List.length_range]; omega) ?_
    walk_at "go"
    refine ⟨n - (j + 1), by omega, j + 1, rfl, by omega, ?_, same_set s n1, ?_⟩
    · have e2 : (2 : Int) * ((2 ^ j : Nat) : Int) = ((2 ^ (j + 1) : Nat) : Int) := by
        rw [Nat.pow_succ, Nat.mul_comm (2 ^ j) 2, Int.natCast_mul]
        rfl
      rw [e2]
    · rw [upd_same, List.range_succ]
      simp only [List.map_append, List.map_cons, List.map_nil]
  · rename_i c
    have ej : j = n := by omega
    subst ej
    walk_at "go"
    exact q _ _ s n1 e
theorem elim_len : ∀ (vs C : List Nat), (vs.foldl elimS C).length ≤ C.length + vs.length
  | [], C => Nat.le_refl _
  | v :: vs, C => by
    have := elim_len vs (elimS C v)
    have h : (elimS C v).length ≤ C.length + 1 := by
      unfold elimS
      split
      · rw [List.length_append]; exact Nat.le_refl _
      · omega
    rw [List.length_cons]
    show (vs.foldl elimS (elimS C v)).length ≤ _
    omega
theorem take_next {α : Type} {l : List α} {k : Nat} {c : α} (h : l[k]? = some c) : l.take (k + 1) = l.take k ++ [c] := by
  rw [List.take_succ, h]
  rfl
theorem rd_count_independent {K : PySem.W.Frag} {vs : List V} {H : Hp} {Q : VK} {E : XK} (h : sp_count_independent K vs H Q E) : t_count_independent K { nx := fun _ H' => Q .non H', rt := Q } (start ["sums", "counted", "whole", "rest", "known"] vs) H := by
  obtain ⟨a, ws, rfl, ⟨ha, hl, q⟩⟩ := h
  show t_count_independent K _ [some (.ref a), none, none, none, none] H
  unfold t_count_independent
  walk_at "go"
  rename_i l1 H1 n1 s1 e1
  have hq : SqL K H1 a ((ofN ws).map V.int) := SqL.of (s1 _ _ ha)
  walk_at "go"
  refine loop_list (xs := (ofN ws).map V.int) (fun k σ H' => ∃ v2 v3 v4, σ = [some (.ref a), some (.ref l1), v2, v3, v4] ∧ Same H H' ∧ H' l1 = some (.lst ((ofN ((ws.take k).foldl elimS [])).map V.int)))
    ⟨_, _, _, rfl, s1, e1⟩ (fun k σ H' _ ⟨_, _, _, _, s, _⟩ => SqL.of (s _ _ ha)) ?_ ?_
  · rintro k x σ H' hx ⟨v2, v3, v4, rfl, s, el⟩
    obtain ⟨w, hw, rfl⟩ : ∃ w : Nat, ws[k]? = some w ∧ V.int (w : Int) = x := by
      rw [List.map_map, List.getElem?_map] at hx
      exact Option.map_eq_some_iff.mp hx
    have hk : k < ws.length := (List.getElem?_eq_some_iff.mp hw).1
    have hC : ((ws.take k).foldl elimS []).length ≤ 2000 := by
      have := elim_len (ws.take k) []
      rw [List.length_take] at this
      simp only [List.length_nil] at this
      omega
    rw [take_next hw, List.foldl_append]
    generalize (ws.take k).foldl elimS [] = C at *
    have hq1 : SqL K H' l1 ((ofN C).map V.int) := SqL.of el
    walk_at "go"
    refine loop_list (xs := (ofN C).map V.int) (fun j σ H2 => ∃ v4, σ = [some (.ref a), some (.ref l1), some (.int (w : Nat)), some (.int ((redu w (C.take j) : Nat) : Int)), v4] ∧ H2 = H')
      ⟨_, rfl, rfl⟩ (fun j σ H2 _ ⟨_, _, z⟩ => by rw [z]; exact hq1) ?_ ?_
    · rintro j y σ H2 hy ⟨v4, rfl, rfl⟩
      obtain ⟨c, hc, rfl⟩ : ∃ c : Nat, C[j]? = some c ∧ V.int (c : Int) = y := by
        rw [List.map_map, List.getElem?_map] at hy
        exact Option.map_eq_some_iff.mp hy
      walk_at "go"
      refine ⟨some (.int (c : Int)), ?_, rfl⟩
      rw [xorN, take_next hc]
      have e : redu w (C.take j ++ [c]) = min (redu w (C.take j)) (redu w (C.take j) ^^^ c) := by
        unfold redu
        rw [List.foldl_append]
        rfl
      rw [e]
      generalize redu w (C.take j) = r
      generalize r ^^^ c = r'
      have e3 : (if (r' : Int) < (r : Int) then (r' : Int) else (r : Int)) = ((min r r' : Nat) : Int) := by split <;> omega
      rw [e3]
    · rintro σ H2 ⟨v4, rfl, rfl⟩
      rw [List.length_map, List.length_map, List.take_length]
      walk_at "go"
      have es : [w].foldl elimS C = elimS C w := rfl
      rw [es]
      walk_at "if"
      · rename_i z
        walk_at "go"
        refine ⟨ty_list hq1, ?_⟩
        walk_at "go"
        refine R_append el (by rw [sizeLine_eq]; simp only [List.length_map]; omega) ?_
        walk_at "go"
        refine ⟨_, _, _, rfl, same_set s n1, ?_⟩
        rw [upd_same]
        unfold elimS
        rw [if_pos (by omega)]
        simp only [List.map_append, List.map_cons, List.map_nil]
      · rename_i z
        walk_at "go"
        refine ⟨_, _, _, rfl, s, ?_⟩
        rw [el]
        unfold elimS
        rw [if_neg (by omega)]
  · rintro σ H' ⟨v2, v3, v4, rfl, s, el⟩
    rw [List.length_map, List.length_map, List.take_length] at el
    have hq1 : SqL K H' l1 ((ofN (ws.foldl elimS [])).map V.int) := SqL.of el
    walk_at "go"
    have := q _ s
    unfold elim at this
    rw [List.length_map]
    exact this
/-! ### the sums of digits -/
section
variable {D : Plait.Panel}
abbrev pws (n : Nat) : List Int := ofN ((List.range n).map fun i => 2 ^ i)
theorem pws_get {n i : Nat} (h : i < n) : (pws n).getD i 0 = ((2 ^ i : Nat) : Int) := by
  rw [List.getD_eq_getElem?_getD, List.getElem?_map, List.getElem?_map, List.getElem?_range h]
  rfl
theorem bsI_pw (P : Pn D) {p : Nat} (hp : p < D.count) : bsI D (pws (NM D)) p = ((bsN D p : Nat) : Int) := by
  have := Plait.squaresAt_lt P.w hp
  unfold bsI bsN
  rw [pws_get (show _ < D.squares + _ by omega), pws_get (show _ < D.squares + _ by omega), xorN]
theorem chI_pw (P : Pn D) {p : Nat} (hp : p < D.count) : chI D (pws (NM D)) p = ((chN D p : Nat) : Int) := by
  unfold chI chN
  split
  · exact bsI_pw P hp
  · split
    · rename_i z
      have := bar_idx (mem_bars.mpr ⟨hp, z⟩)
      rw [List.getD_eq_getElem?_getD, List.getElem?_drop, ← List.getD_eq_getElem?_getD]
      exact pws_get (show _ < D.squares + _ by omega)
    · rfl
theorem arI_pw (P : Pn D) (s : Nat) : ∀ n, n ≤ D.count → arI D (pws (NM D)) n s = ((arN D n s : Nat) : Int)
  | 0, _ => rfl
  | n + 1, h => by
    rw [arI_succ, arN_succ, arI_pw P s n (by omega), chI_pw P (by omega)]
    split
    · rw [xorN]
    · rfl
theorem rules_pw (P : Pn D) : (List.range D.squares).map (arI D (pws (NM D)) D.count) ++ D.bars.map (bsI D (pws (NM D))) = ofN (rulesN D) := by
  show _ = ((List.range D.squares).map (arN D D.count) ++ D.bars.map (bsN D)).map _
  rw [List.map_append, List.map_map, List.map_map]
  congr 1
  · exact List.map_congr_left fun s _ => arI_pw P s _ (Nat.le_refl _)
  · exact List.map_congr_left fun p hp => bsI_pw P (mem_bars.mp hp).1
end
theorem pn_of {K : PySem.W.Frag} {H : Hp} {a : Addr} {b : List Int} (hb : PAt K H a b) : Pn (panel b) := ⟨hb.w1, fun p hp => state_le hb.at_.byt hb.right hp⟩
theorem rd_count_free {K : PySem.W.Frag} {vs : List V} {H : Hp} {Q : VK} {E : XK} (h : sp_count_free K vs H Q E) : t_count_free K { nx := fun _ H' => Q .non H', rt := Q } (start ["b", "digits"] vs) H := by
  obtain ⟨a, b, rfl, ⟨hb, q⟩⟩ := h
  show t_count_free K _ [some (.ref a), none] H
  unfold t_count_free
  walk_at "go"
  have P := pn_of hb
  have hsq := sq_le hb
  have hbr := bars_le hb
  have eNM : NM (panel b) = (panel b).squares + (panel b).bars.length := rfl
  have eF := free_strands P
  have eN : NMd (panel b) = NM (panel b) := rfl
  refine ⟨a, b, rfl, hb, fun H1 s1 => ?_⟩
  walk_at "go"
  refine ⟨NM (panel b), rfl, by omega, fun H2 l2 s2 n2 e2 => ?_⟩
  have hq2 : SqL K H2 l2 ((pws (NM (panel b))).map V.int) := SqL.of e2
  have hlp : (pws (NM (panel b))).length = NM (panel b) := by rw [List.length_map, List.length_map, List.length_range]
  walk_at "go"
  refine ⟨a, l2, b, pws (NM (panel b)), rfl, hb.same (s1.trans s2), hq2, hlp, fun H3 l3 s3 n3 e3 => ?_⟩
  walk_at "go"
  refine ⟨a, l2, b, pws (NM (panel b)), rfl, hb.same ((s1.trans s2).trans s3), s3.seq hq2, hlp, fun H4 l4 s4 n4 e4 => ?_⟩
  walk_at "go"
  refine R_cat (s4 _ _ e3) e4 (upto (by simp only [List.length_map, List.length_range]; omega)) ?_
  walk_at "go"
  rename_i l5 H5 n5 s5 e5
  rw [← List.map_append, rules_pw P] at e5
  have hrl : (rulesN (panel b)).length = NM (panel b) := by
    unfold rulesN
    rw [List.length_append, List.length_map, List.length_map, List.length_range]
  refine ⟨l5, rulesN (panel b), rfl, e5, by omega, fun H6 s6 => ?_⟩
  walk_at "go"
  have := q _ (((((s1.trans s2).trans s3).trans s4).trans s5).trans s6)
  rw [List.length_map, List.length_map, List.length_range]
  have e : (((NM (panel b) : Nat) : Int) - (((elim (rulesN (panel b))).length : Nat) : Int)) = (((panel b).traced.count : Nat) : Int) := by omega
  rw [e]
  exact this
theorem rd_free {K : PySem.W.Frag} {vs : List V} {H : Hp} {Q : VK} {E : XK} (h : sp_free K vs H Q E) : t_free K { nx := fun _ H' => Q .non H', rt := Q } (start ["b", "refusal"] vs) H := by
  obtain ⟨a, b, rfl, ⟨hb, q⟩⟩ := h
  show t_free K _ [some (.ref a), none] H
  unfold t_free
  walk_at "go"
  rw [f_free hb.byt] at q
  refine ⟨a, b, rfl, hb, fun H1 s1 => ?_⟩
  walk_at "go"
  by_cases c0 : fr b = 0
  rotate_left
  · rw [if_neg c0] at q
    have cn := fr_neg c0
    refine L3.ite_dec (fun _ => ?_) (fun z => absurd cn z)
    walk_at "go"
    exact ans q (by assumption) rfl
  rw [if_pos c0] at q
  dsimp only at q
  rw [c0]
  walk_at "if"
  · rename_i z; exact absurd z (by decide)
  have P1 : PAt K H1 a b := ⟨hb.same s1, c0⟩
  have hq := P1.at_.sq
  obtain ⟨hlen, w1, w8, h1, h8, _, le6, _⟩ := P1.right
  walk_at "go"
  refine ⟨a, b, rfl, P1, fun H2 s2 => ?_⟩
  walk_at "go"
  exact ans q (by assumption) rfl
end Il

set_option Elab.async false
set_option linter.all false
set_option maxRecDepth 100000
set_option maxHeartbeats 2000000
namespace Lw
open PySem PySem.Spec PyProof.Rows L2 L3 Il
def top (i : Nat) : Stmt := PySem.Challenge.pw_interlace_s21_free.main.body.getD i (.Pass ⟨0, 0, 0, 0⟩)
abbrev s_count_uprights : Stmt := top 9
abbrev s_count_squares : Stmt := top 10
abbrev s_count_places : Stmt := top 11
abbrev s_find_fault : Stmt := top 12
abbrev s_find_squares : Stmt := top 13
abbrev s_list_places_with : Stmt := top 15
abbrev s_count_marks : Stmt := top 17
abbrev s_list_changes : Stmt := top 18
abbrev s_add_around : Stmt := top 19
abbrev s_add_beside : Stmt := top 20
abbrev s_list_powers : Stmt := top 21
abbrev s_count_independent : Stmt := top 22
abbrev s_count_free : Stmt := top 23
abbrev s_is_too_long : Stmt := top 28
abbrev s_find_refusal : Stmt := top 29
abbrev s_free : Stmt := top 31
structure Txt (K : PySem.W.Frag) (mg : Str → Option Value) (a_MARK : Addr) : Prop where
  m_MARK : mg "MARK" = some (.ref a_MARK)
  m_WIDE_AT : ∃ t, mg "WIDE_AT" = some (.int 4 t)
  m_HIGH_AT : ∃ t, mg "HIGH_AT" = some (.int 5 t)
  m_PLACES_AT : ∃ t, mg "PLACES_AT" = some (.int 6 t)
  m_MOST_SQUARES : ∃ t, mg "MOST_SQUARES" = some (.int 8 t)
  m_MOST_SIGN : ∃ t, mg "MOST_SIGN" = some (.int 2 t)
  m_CROSSING : ∃ t, mg "CROSSING" = some (.int 0 t)
  m_ACROSS : ∃ t, mg "ACROSS" = some (.int 2 t)
  m_MOST_NUMBERS : ∃ t, mg "MOST_NUMBERS" = some (.int 1024 t)
  m_TOO_LONG : ∃ t, mg "TOO_LONG" = some (.int (-2) t)
  m_NOT_RIGHT : ∃ t, mg "NOT_RIGHT" = some (.int (-6) t)
  q_MARK : ∀ H, SqT K H a_MARK [.int 80, .int 76, .int 80, .int 49]
  n_dict : mg "dict" = none
  n_enumerate : mg "enumerate" = none
  n_len : mg "len" = none
  n_min : mg "min" = none
  n_range : mg "range" = none
  n_tuple : mg "tuple" = none
  n_zip : mg "zip" = none
section
variable {P : Program} {w : World} {K : PySem.W.Frag} {mg : Str → Option Value} {base : Heap} {a_MARK : Addr}
theorem sc_count_uprights : FnScope ["wide", "high"] ["wide", "high"] (defScope s_count_uprights) := ⟨rfl, rfl, rfl, by decide +kernel, rfl, by decide +kernel, by decide +kernel⟩
theorem dv_count_uprights {f : Addr} {cdv : Value} {A : Around} {outer : List Env} {s : Shared} {H : Hp} {E : XK} (T : Txt K mg a_MARK) (hr : Room 0 (A.deeper (envOfC "count_uprights" (defScope s_count_uprights) s.heap.objs.size f cdv))) :
    PSs (cxOf CX0 P w K mg base ["wide", "high"] "count_uprights" (defScope s_count_uprights) f cdv A outer s H E).nox (defBody s_count_uprights) (t_count_uprights K) :=
  (pss_one (ps_ret (pe_op op_mul (pe_op op_sub (pv 0) pe_int) (pv 1))))
theorem cal_count_uprights {f : Addr} {fd : FuncData} (F : Fun K "count_uprights" "count_uprights" s_count_uprights f fd) (T : Txt K mg a_MARK) (hm : mg "count_uprights" = some (.ref f)) : Cal P w K mg base "count_uprights" 1 ["wide", "high"] (sp_count_uprights K) := by
  have G : FnOk P w K mg base CX0 1 f fd ["wide", "high"] (sp_count_uprights K) := F.ok sc_count_uprights (fun vs H Q E h => ln_count_uprights h) (fun cdv A outer s H vs Q E hr h => ⟨_, dv_count_uprights T hr, rd_count_uprights h⟩)
  exact ⟨f, fd, G, hm, F.kp, F.binds fun _ _ _ _ _ _ us hl => match us, hl with | [_, _], _ => rfl⟩
theorem sc_count_squares : FnScope ["b"] ["b"] (defScope s_count_squares) := ⟨rfl, rfl, rfl, by decide +kernel, rfl, by decide +kernel, by decide +kernel⟩
theorem dv_count_squares {f : Addr} {cdv : Value} {A : Around} {outer : List Env} {s : Shared} {H : Hp} {E : XK} (T : Txt K mg a_MARK) (hr : Room 0 (A.deeper (envOfC "count_squares" (defScope s_count_squares) s.heap.objs.size f cdv))) :
    PSs (cxOf CX0 P w K mg base ["b"] "count_squares" (defScope s_count_squares) f cdv A outer s H E).nox (defBody s_count_squares) (t_count_squares K) :=
  (pss_one (ps_ret (pe_op op_mul (pe_ix ix_list (pv 0) (pe_gint T.m_WIDE_AT) (fun _ _ => rfl)) (pe_ix ix_list (pv 0) (pe_gint T.m_HIGH_AT) (fun _ _ => rfl)))))
theorem cal_count_squares {f : Addr} {fd : FuncData} (F : Fun K "count_squares" "count_squares" s_count_squares f fd) (T : Txt K mg a_MARK) (hm : mg "count_squares" = some (.ref f)) : Cal P w K mg base "count_squares" 1 ["b"] (sp_count_squares K) := by
  have G : FnOk P w K mg base CX0 1 f fd ["b"] (sp_count_squares K) := F.ok sc_count_squares (fun vs H Q E h => ln_count_squares h) (fun cdv A outer s H vs Q E hr h => ⟨_, dv_count_squares T hr, rd_count_squares h⟩)
  exact ⟨f, fd, G, hm, F.kp, F.binds fun _ _ _ _ _ _ us hl => match us, hl with | [_], _ => rfl⟩
theorem sc_count_places : FnScope ["wide", "high"] ["wide", "high"] (defScope s_count_places) := ⟨rfl, rfl, rfl, by decide +kernel, rfl, by decide +kernel, by decide +kernel⟩
theorem dv_count_places {f : Addr} {cdv : Value} {A : Around} {outer : List Env} {s : Shared} {H : Hp} {E : XK} (T : Txt K mg a_MARK) (C_count_uprights : Cal P w K mg base "count_uprights" 1 ["wide", "high"] (sp_count_uprights K)) (hr : Room 1 (A.deeper (envOfC "count_places" (defScope s_count_places) s.heap.objs.size f cdv))) :
    PSs (cxOf CX0 P w K mg base ["wide", "high"] "count_places" (defScope s_count_places) f cdv A outer s H E).nox (defBody s_count_places) (t_count_places K) :=
  (pss_one (ps_ret (pe_op op_add (pe_own C_count_uprights (hr.mono (by decide)) (pa_cons (pv 0) (pa_cons (pv 1) pa_nil))) (pe_op op_mul (pv 0) (pe_op op_sub (pv 1) pe_int)))))
theorem cal_count_places {f : Addr} {fd : FuncData} (F : Fun K "count_places" "count_places" s_count_places f fd) (T : Txt K mg a_MARK) (C_count_uprights : Cal P w K mg base "count_uprights" 1 ["wide", "high"] (sp_count_uprights K)) (hm : mg "count_places" = some (.ref f)) : Cal P w K mg base "count_places" 2 ["wide", "high"] (sp_count_places K) := by
  have G : FnOk P w K mg base CX0 2 f fd ["wide", "high"] (sp_count_places K) := F.ok sc_count_places (fun vs H Q E h => ln_count_places h) (fun cdv A outer s H vs Q E hr h => ⟨_, dv_count_places T C_count_uprights hr, rd_count_places h⟩)
  exact ⟨f, fd, G, hm, F.kp, F.binds fun _ _ _ _ _ _ us hl => match us, hl with | [_, _], _ => rfl⟩
theorem sc_find_fault : FnScope ["b", "at"] ["b"] (defScope s_find_fault) := ⟨rfl, rfl, rfl, by decide +kernel, rfl, by decide +kernel, by decide +kernel⟩
theorem dv_find_fault {f : Addr} {cdv : Value} {A : Around} {outer : List Env} {s : Shared} {H : Hp} {E : XK} (T : Txt K mg a_MARK) (C_count_places : Cal P w K mg base "count_places" 2 ["wide", "high"] (sp_count_places K)) (hr : Room 2 (A.deeper (envOfC "find_fault" (defScope s_find_fault) s.heap.objs.size f cdv))) :
    PSs (cxOf CX0 P w K mg base ["b", "at"] "find_fault" (defScope s_find_fault) f cdv A outer s H E).nox (defBody s_find_fault) (t_find_fault K a_MARK) :=
  (pss_cons (ps_if (PW.pt (pw_or (pt_cmpR op_lt (pe_callB cr_len rfl T.n_len PySem.boot_len (pa_cons (pv 0) pa_nil)) (pe_gint T.m_PLACES_AT) (nomark _)) (pw_or1 (pt_cmpR (op_neD (Room.units hr)) (pe_callTy cr_tup rfl T.n_tuple (by decide +kernel) (pa_cons (pe_slice sl_list (pv 0) po_none (po_some (pe_gint T.m_WIDE_AT))) pa_nil)) (pe_gref T.m_MARK) (nomark _))))) (pss_one (ps_ret (pe_tup (pa_cons pe_int (pa_cons pe_int pa_nil))))) pss_nil)
    (pss_cons (ps_for PassesOwn.never rfl (pi_tup (pe_tup (pa_cons (pe_gint T.m_WIDE_AT) (pa_cons (pe_gint T.m_HIGH_AT) pa_nil)))) (pg_name (i := 1) sc_find_fault.nd rfl (Or.inl rfl)) (pss_one (ps_if (PW.pt (pw_or (pt_cmpR op_lt (pe_ix ix_list (pv 0) (pv 1) (fun _ _ => rfl)) pe_int (nomark _)) (pw_or1 (pt_cmpR op_gt (pe_ix ix_list (pv 0) (pv 1) (fun _ _ => rfl)) (pe_gint T.m_MOST_SQUARES) (nomark _))))) (pss_one (ps_ret (pe_tup (pa_cons pe_int (pa_cons (pv 1) pa_nil))))) pss_nil)))
    (pss_cons (ps_if (pt_cmpR op_ne (pe_callB cr_len rfl T.n_len PySem.boot_len (pa_cons (pv 0) pa_nil)) (pe_op op_add (pe_gint T.m_PLACES_AT) (pe_own C_count_places (hr.mono (by decide)) (pa_cons (pe_ix ix_list (pv 0) (pe_gint T.m_WIDE_AT) (fun _ _ => rfl)) (pa_cons (pe_ix ix_list (pv 0) (pe_gint T.m_HIGH_AT) (fun _ _ => rfl)) pa_nil)))) (nomark _)) (pss_one (ps_ret (pe_tup (pa_cons pe_int (pa_cons (pe_gint T.m_WIDE_AT) pa_nil))))) pss_nil)
    (pss_cons (ps_for PassesOwn.never rfl (pi_range2 rfl T.n_range (pa_cons (pe_gint T.m_PLACES_AT) (pa_cons (pe_callB cr_len rfl T.n_len PySem.boot_len (pa_cons (pv 0) pa_nil)) pa_nil))) (pg_name (i := 1) sc_find_fault.nd rfl (Or.inl rfl)) (pss_one (ps_if (pt_cmpR op_gt (pe_ix ix_list (pv 0) (pv 1) (fun _ _ => rfl)) (pe_gint T.m_MOST_SIGN) (nomark _)) (pss_one (ps_ret (pe_tup (pa_cons pe_int (pa_cons (pv 1) pa_nil))))) pss_nil)))
    (pss_one (ps_ret pe_non))))))
theorem cal_find_fault {f : Addr} {fd : FuncData} (F : Fun K "find_fault" "find_fault" s_find_fault f fd) (T : Txt K mg a_MARK) (C_count_places : Cal P w K mg base "count_places" 2 ["wide", "high"] (sp_count_places K)) (hm : mg "find_fault" = some (.ref f)) : Cal P w K mg base "find_fault" 3 ["b"] (sp_find_fault K) := by
  have G : FnOk P w K mg base CX0 3 f fd ["b"] (sp_find_fault K) := F.ok sc_find_fault (fun vs H Q E h => ln_find_fault h) (fun cdv A outer s H vs Q E hr h => ⟨_, dv_find_fault T C_count_places hr, rd_find_fault T.q_MARK h⟩)
  exact ⟨f, fd, G, hm, F.kp, F.binds fun _ _ _ _ _ _ us hl => match us, hl with | [_], _ => rfl⟩
theorem sc_find_squares : FnScope ["p", "wide", "high", "uprights", "left", "upper"] ["p", "wide", "high"] (defScope s_find_squares) := ⟨rfl, rfl, rfl, by decide +kernel, rfl, by decide +kernel, by decide +kernel⟩
theorem dv_find_squares {f : Addr} {cdv : Value} {A : Around} {outer : List Env} {s : Shared} {H : Hp} {E : XK} (T : Txt K mg a_MARK) (C_count_uprights : Cal P w K mg base "count_uprights" 1 ["wide", "high"] (sp_count_uprights K)) (hr : Room 1 (A.deeper (envOfC "find_squares" (defScope s_find_squares) s.heap.objs.size f cdv))) :
    PSs (cxOf CX0 P w K mg base ["p", "wide", "high", "uprights", "left", "upper"] "find_squares" (defScope s_find_squares) f cdv A outer s H E).nox (defBody s_find_squares) (t_find_squares K) :=
  (pss_cons (ps_set (i := 3) sc_find_squares.nd rfl (Or.inl rfl) (pe_own C_count_uprights (hr.mono (by decide)) (pa_cons (pv 1) (pa_cons (pv 2) pa_nil))))
    (pss_cons (ps_if (pt_cmpR op_lt (pv 0) (pv 3) (nomark _)) (pss_cons (ps_set (i := 4) sc_find_squares.nd rfl (Or.inl rfl) (pe_op op_add (pe_op op_mul (pe_op op_fdiv (pv 0) (pe_op op_sub (pv 1) pe_int)) (pv 1)) (pe_op op_mod (pv 0) (pe_op op_sub (pv 1) pe_int))))
    (pss_one (ps_ret (pe_tup (pa_cons (pv 4) (pa_cons (pe_op op_add (pv 4) pe_int) pa_nil)))))) pss_nil)
    (pss_cons (ps_set (i := 5) sc_find_squares.nd rfl (Or.inl rfl) (pe_op op_sub (pv 0) (pv 3)))
    (pss_one (ps_ret (pe_tup (pa_cons (pv 5) (pa_cons (pe_op op_add (pv 5) (pv 1)) pa_nil))))))))
theorem cal_find_squares {f : Addr} {fd : FuncData} (F : Fun K "find_squares" "find_squares" s_find_squares f fd) (T : Txt K mg a_MARK) (C_count_uprights : Cal P w K mg base "count_uprights" 1 ["wide", "high"] (sp_count_uprights K)) (hm : mg "find_squares" = some (.ref f)) : Cal P w K mg base "find_squares" 2 ["p", "wide", "high"] (sp_find_squares K) := by
  have G : FnOk P w K mg base CX0 2 f fd ["p", "wide", "high"] (sp_find_squares K) := F.ok sc_find_squares (fun vs H Q E h => ln_find_squares h) (fun cdv A outer s H vs Q E hr h => ⟨_, dv_find_squares T C_count_uprights hr, rd_find_squares h⟩)
  exact ⟨f, fd, G, hm, F.kp, F.binds fun _ _ _ _ _ _ us hl => match us, hl with | [_, _, _], _ => rfl⟩
theorem sc_list_places_with : FnScope ["sign", "b", "p", "z"] ["sign", "b"] (defScope s_list_places_with) := ⟨rfl, rfl, rfl, by decide +kernel, rfl, by decide +kernel, by decide +kernel⟩
theorem dv_list_places_with {f : Addr} {cdv : Value} {A : Around} {outer : List Env} {s : Shared} {H : Hp} {E : XK} (T : Txt K mg a_MARK) (hr : Room 0 (A.deeper (envOfC "list_places_with" (defScope s_list_places_with) s.heap.objs.size f cdv))) :
    PSs (cxOf CX0 P w K mg base ["sign", "b", "p", "z"] "list_places_with" (defScope s_list_places_with) f cdv A outer s H E).nox (defBody s_list_places_with) (t_list_places_with K) :=
  (pss_one (ps_ret (pe_lc (own := [("p", 2), ("z", 3)]) rfl sc_list_places_with.nd (pi_enum rfl T.n_enumerate (pa_cons (pe_slice sl_list (pv 1) (po_some (pe_gint T.m_PLACES_AT)) po_none) pa_nil)) (blkOk_by (N := ["sign", "b", "p", "z"]) (sc := defScope s_list_places_with) (by decide +kernel)) (fun _ _ _ _ _ => (pg_tup rfl (pgs_cons (pg_name (i := 2) sc_list_places_with.nd rfl (Or.inl rfl)) (pgs_cons (pg_name (i := 3) sc_list_places_with.nd rfl (Or.inl rfl)) pgs_nil)))) (fun _ _ _ _ _ => (pts_one (pt_cmpR op_eq (pv 3) (pv 0) (nomark _)))) (fun _ _ _ _ _ => (pv 2)))))
theorem cal_list_places_with {f : Addr} {fd : FuncData} (F : Fun K "list_places_with" "list_places_with" s_list_places_with f fd) (T : Txt K mg a_MARK) (hm : mg "list_places_with" = some (.ref f)) : Cal P w K mg base "list_places_with" 1 ["sign", "b"] (sp_list_places_with K) := by
  have G : FnOk P w K mg base CX0 1 f fd ["sign", "b"] (sp_list_places_with K) := F.ok sc_list_places_with (fun vs H Q E h => ln_list_places_with h) (fun cdv A outer s H vs Q E hr h => ⟨_, dv_list_places_with T hr, rd_list_places_with h⟩)
  exact ⟨f, fd, G, hm, F.kp, F.binds fun _ _ _ _ _ _ us hl => match us, hl with | [_, _], _ => rfl⟩
theorem sc_count_marks : FnScope ["b"] ["b"] (defScope s_count_marks) := ⟨rfl, rfl, rfl, by decide +kernel, rfl, by decide +kernel, by decide +kernel⟩
theorem dv_count_marks {f : Addr} {cdv : Value} {A : Around} {outer : List Env} {s : Shared} {H : Hp} {E : XK} (T : Txt K mg a_MARK) (C_count_squares : Cal P w K mg base "count_squares" 1 ["b"] (sp_count_squares K)) (C_list_places_with : Cal P w K mg base "list_places_with" 1 ["sign", "b"] (sp_list_places_with K)) (hr : Room 1 (A.deeper (envOfC "count_marks" (defScope s_count_marks) s.heap.objs.size f cdv))) :
    PSs (cxOf CX0 P w K mg base ["b"] "count_marks" (defScope s_count_marks) f cdv A outer s H E).nox (defBody s_count_marks) (t_count_marks K) :=
  (pss_one (ps_ret (pe_op op_add (pe_own C_count_squares (hr.mono (by decide)) (pa_cons (pv 0) pa_nil)) (pe_callB cr_len rfl T.n_len PySem.boot_len (pa_cons (pe_own C_list_places_with (hr.mono (by decide)) (pa_cons (pe_gint T.m_ACROSS) (pa_cons (pv 0) pa_nil))) pa_nil)))))
theorem cal_count_marks {f : Addr} {fd : FuncData} (F : Fun K "count_marks" "count_marks" s_count_marks f fd) (T : Txt K mg a_MARK) (C_count_squares : Cal P w K mg base "count_squares" 1 ["b"] (sp_count_squares K)) (C_list_places_with : Cal P w K mg base "list_places_with" 1 ["sign", "b"] (sp_list_places_with K)) (hm : mg "count_marks" = some (.ref f)) : Cal P w K mg base "count_marks" 2 ["b"] (sp_count_marks K) := by
  have G : FnOk P w K mg base CX0 2 f fd ["b"] (sp_count_marks K) := F.ok sc_count_marks (fun vs H Q E h => ln_count_marks h) (fun cdv A outer s H vs Q E hr h => ⟨_, dv_count_marks T C_count_squares C_list_places_with hr, rd_count_marks h⟩)
  exact ⟨f, fd, G, hm, F.kp, F.binds fun _ _ _ _ _ _ us hl => match us, hl with | [_], _ => rfl⟩
theorem sc_list_changes : FnScope ["b", "m", "of_breaks", "changes", "p", "z", "pair"] ["b", "m"] (defScope s_list_changes) := ⟨rfl, rfl, rfl, by decide +kernel, rfl, by decide +kernel, by decide +kernel⟩
theorem dv_list_changes {f : Addr} {cdv : Value} {A : Around} {outer : List Env} {s : Shared} {H : Hp} {E : XK} (T : Txt K mg a_MARK) (C_count_squares : Cal P w K mg base "count_squares" 1 ["b"] (sp_count_squares K)) (C_find_squares : Cal P w K mg base "find_squares" 2 ["p", "wide", "high"] (sp_find_squares K)) (C_list_places_with : Cal P w K mg base "list_places_with" 1 ["sign", "b"] (sp_list_places_with K)) (hr : Room 2 (A.deeper (envOfC "list_changes" (defScope s_list_changes) s.heap.objs.size f cdv))) :
    PSs (cxOf CX0 P w K mg base ["b", "m", "of_breaks", "changes", "p", "z", "pair"] "list_changes" (defScope s_list_changes) f cdv A outer s H E).nox (defBody s_list_changes) (t_list_changes K) :=
  (pss_cons (ps_set (i := 2) sc_list_changes.nd rfl (Or.inl rfl) (pe_dictZip rfl rfl T.n_dict rfl T.n_zip (pa_cons (pe_own C_list_places_with (hr.mono (by decide)) (pa_cons (pe_gint T.m_ACROSS) (pa_cons (pv 0) pa_nil))) (pa_cons (pe_slice sl_list (pv 1) (po_some (pe_own C_count_squares (hr.mono (by decide)) (pa_cons (pv 0) pa_nil))) po_none) pa_nil))))
    (pss_cons (ps_set (i := 3) sc_list_changes.nd rfl (Or.inl rfl) (pe_lst pa_nil))
    (pss_cons (ps_for PassesOwn.never rfl (pi_enum rfl T.n_enumerate (pa_cons (pe_slice sl_list (pv 0) (po_some (pe_gint T.m_PLACES_AT)) po_none) pa_nil)) (pg_tup rfl (pgs_cons (pg_name (i := 4) sc_list_changes.nd rfl (Or.inl rfl)) (pgs_cons (pg_name (i := 5) sc_list_changes.nd rfl (Or.inl rfl)) pgs_nil))) (pss_cons (ps_set (i := 6) sc_list_changes.nd rfl (Or.inl rfl) (pe_own C_find_squares (hr.mono (by decide)) (pa_cons (pv 4) (pa_cons (pe_ix ix_list (pv 0) (pe_gint T.m_WIDE_AT) (fun _ _ => rfl)) (pa_cons (pe_ix ix_list (pv 0) (pe_gint T.m_HIGH_AT) (fun _ _ => rfl)) pa_nil)))))
    (pss_one (ps_if (pt_cmpR op_eq (pv 5) (pe_gint T.m_CROSSING) (nomark _)) (pss_one (ps_expr (pe_bm PySem.F.plainAttrs_list PySem.F.slot_list_append PySem.F.type_list_append mt_append (pv 3) (pa_cons (pe_op op_xor (pe_ix ix_list (pv 1) (pe_ix ix_tup (pv 6) pe_int (fun _ _ => rfl)) (fun _ _ => rfl)) (pe_ix ix_list (pv 1) (pe_ix ix_tup (pv 6) pe_int (fun _ _ => rfl)) (fun _ _ => rfl))) pa_nil)))) (pss_one (ps_if (pt_cmpR op_eq (pv 5) (pe_gint T.m_ACROSS) (nomark _)) (pss_one (ps_expr (pe_bm PySem.F.plainAttrs_list PySem.F.slot_list_append PySem.F.type_list_append mt_append (pv 3) (pa_cons (pe_dget (hu_of hr) (pv 2) (pv 4) (fun _ _ => rfl)) pa_nil)))) (pss_one (ps_expr (pe_bm PySem.F.plainAttrs_list PySem.F.slot_list_append PySem.F.type_list_append mt_append (pv 3) (pa_cons pe_int pa_nil))))))))))
    (pss_one (ps_ret (pv 3))))))
theorem cal_list_changes {f : Addr} {fd : FuncData} (F : Fun K "list_changes" "list_changes" s_list_changes f fd) (T : Txt K mg a_MARK) (C_count_squares : Cal P w K mg base "count_squares" 1 ["b"] (sp_count_squares K)) (C_find_squares : Cal P w K mg base "find_squares" 2 ["p", "wide", "high"] (sp_find_squares K)) (C_list_places_with : Cal P w K mg base "list_places_with" 1 ["sign", "b"] (sp_list_places_with K)) (hm : mg "list_changes" = some (.ref f)) : Cal P w K mg base "list_changes" 3 ["b", "m"] (sp_list_changes K) := by
  have G : FnOk P w K mg base CX0 3 f fd ["b", "m"] (sp_list_changes K) := F.ok sc_list_changes (fun vs H Q E h => ln_list_changes h) (fun cdv A outer s H vs Q E hr h => ⟨_, dv_list_changes T C_count_squares C_find_squares C_list_places_with hr, rd_list_changes h⟩)
  exact ⟨f, fd, G, hm, F.kp, F.binds fun _ _ _ _ _ _ us hl => match us, hl with | [_, _], _ => rfl⟩
theorem sc_add_around : FnScope ["b", "m", "around", "p", "change", "s"] ["b", "m"] (defScope s_add_around) := ⟨rfl, rfl, rfl, by decide +kernel, rfl, by decide +kernel, by decide +kernel⟩
theorem dv_add_around {f : Addr} {cdv : Value} {A : Around} {outer : List Env} {s : Shared} {H : Hp} {E : XK} (T : Txt K mg a_MARK) (C_count_squares : Cal P w K mg base "count_squares" 1 ["b"] (sp_count_squares K)) (C_find_squares : Cal P w K mg base "find_squares" 2 ["p", "wide", "high"] (sp_find_squares K)) (C_list_changes : Cal P w K mg base "list_changes" 3 ["b", "m"] (sp_list_changes K)) (hr : Room 3 (A.deeper (envOfC "add_around" (defScope s_add_around) s.heap.objs.size f cdv))) :
    PSs (cxOf CX0 P w K mg base ["b", "m", "around", "p", "change", "s"] "add_around" (defScope s_add_around) f cdv A outer s H E).nox (defBody s_add_around) (t_add_around K) :=
  (pss_cons (ps_set (i := 2) sc_add_around.nd rfl (Or.inl rfl) (pe_op op_rep (pe_lst (pa_cons pe_int pa_nil)) (pe_own C_count_squares (hr.mono (by decide)) (pa_cons (pv 0) pa_nil))))
    (pss_cons (ps_for PassesOwn.never rfl (pi_enum rfl T.n_enumerate (pa_cons (pe_own C_list_changes (hr.mono (by decide)) (pa_cons (pv 0) (pa_cons (pv 1) pa_nil))) pa_nil)) (pg_tup rfl (pgs_cons (pg_name (i := 3) sc_add_around.nd rfl (Or.inl rfl)) (pgs_cons (pg_name (i := 4) sc_add_around.nd rfl (Or.inl rfl)) pgs_nil))) (pss_one (ps_for PassesOwn.never rfl (pi_tup (pe_own C_find_squares (hr.mono (by decide)) (pa_cons (pv 3) (pa_cons (pe_ix ix_list (pv 0) (pe_gint T.m_WIDE_AT) (fun _ _ => rfl)) (pa_cons (pe_ix ix_list (pv 0) (pe_gint T.m_HIGH_AT) (fun _ _ => rfl)) pa_nil))))) (pg_name (i := 5) sc_add_around.nd rfl (Or.inl rfl)) (pss_one (ps_asg (pe_op op_xor (pe_ix ix_list (pv 2) (pv 5) (fun _ _ => rfl)) (pv 4)) (pg_sub (pv 2) (pv 5) set_list))))))
    (pss_one (ps_ret (pv 2)))))
theorem cal_add_around {f : Addr} {fd : FuncData} (F : Fun K "add_around" "add_around" s_add_around f fd) (T : Txt K mg a_MARK) (C_count_squares : Cal P w K mg base "count_squares" 1 ["b"] (sp_count_squares K)) (C_find_squares : Cal P w K mg base "find_squares" 2 ["p", "wide", "high"] (sp_find_squares K)) (C_list_changes : Cal P w K mg base "list_changes" 3 ["b", "m"] (sp_list_changes K)) (hm : mg "add_around" = some (.ref f)) : Cal P w K mg base "add_around" 4 ["b", "m"] (sp_add_around K) := by
  have G : FnOk P w K mg base CX0 4 f fd ["b", "m"] (sp_add_around K) := F.ok sc_add_around (fun vs H Q E h => ln_add_around h) (fun cdv A outer s H vs Q E hr h => ⟨_, dv_add_around T C_count_squares C_find_squares C_list_changes hr, rd_add_around h⟩)
  exact ⟨f, fd, G, hm, F.kp, F.binds fun _ _ _ _ _ _ us hl => match us, hl with | [_, _], _ => rfl⟩
theorem sc_add_beside : FnScope ["b", "m", "beside", "p", "pair"] ["b", "m"] (defScope s_add_beside) := ⟨rfl, rfl, rfl, by decide +kernel, rfl, by decide +kernel, by decide +kernel⟩
theorem dv_add_beside {f : Addr} {cdv : Value} {A : Around} {outer : List Env} {s : Shared} {H : Hp} {E : XK} (T : Txt K mg a_MARK) (C_find_squares : Cal P w K mg base "find_squares" 2 ["p", "wide", "high"] (sp_find_squares K)) (C_list_places_with : Cal P w K mg base "list_places_with" 1 ["sign", "b"] (sp_list_places_with K)) (hr : Room 2 (A.deeper (envOfC "add_beside" (defScope s_add_beside) s.heap.objs.size f cdv))) :
    PSs (cxOf CX0 P w K mg base ["b", "m", "beside", "p", "pair"] "add_beside" (defScope s_add_beside) f cdv A outer s H E).nox (defBody s_add_beside) (t_add_beside K) :=
  (pss_cons (ps_set (i := 2) sc_add_beside.nd rfl (Or.inl rfl) (pe_lst pa_nil))
    (pss_cons (ps_for PassesOwn.never rfl (pi_list (pe_own C_list_places_with (hr.mono (by decide)) (pa_cons (pe_gint T.m_ACROSS) (pa_cons (pv 0) pa_nil)))) (pg_name (i := 3) sc_add_beside.nd rfl (Or.inl rfl)) (pss_cons (ps_set (i := 4) sc_add_beside.nd rfl (Or.inl rfl) (pe_own C_find_squares (hr.mono (by decide)) (pa_cons (pv 3) (pa_cons (pe_ix ix_list (pv 0) (pe_gint T.m_WIDE_AT) (fun _ _ => rfl)) (pa_cons (pe_ix ix_list (pv 0) (pe_gint T.m_HIGH_AT) (fun _ _ => rfl)) pa_nil)))))
    (pss_one (ps_expr (pe_bm PySem.F.plainAttrs_list PySem.F.slot_list_append PySem.F.type_list_append mt_append (pv 2) (pa_cons (pe_op op_xor (pe_ix ix_list (pv 1) (pe_ix ix_tup (pv 4) pe_int (fun _ _ => rfl)) (fun _ _ => rfl)) (pe_ix ix_list (pv 1) (pe_ix ix_tup (pv 4) pe_int (fun _ _ => rfl)) (fun _ _ => rfl))) pa_nil))))))
    (pss_one (ps_ret (pv 2)))))
theorem cal_add_beside {f : Addr} {fd : FuncData} (F : Fun K "add_beside" "add_beside" s_add_beside f fd) (T : Txt K mg a_MARK) (C_find_squares : Cal P w K mg base "find_squares" 2 ["p", "wide", "high"] (sp_find_squares K)) (C_list_places_with : Cal P w K mg base "list_places_with" 1 ["sign", "b"] (sp_list_places_with K)) (hm : mg "add_beside" = some (.ref f)) : Cal P w K mg base "add_beside" 3 ["b", "m"] (sp_add_beside K) := by
  have G : FnOk P w K mg base CX0 3 f fd ["b", "m"] (sp_add_beside K) := F.ok sc_add_beside (fun vs H Q E h => ln_add_beside h) (fun cdv A outer s H vs Q E hr h => ⟨_, dv_add_beside T C_find_squares C_list_places_with hr, rd_add_beside h⟩)
  exact ⟨f, fd, G, hm, F.kp, F.binds fun _ _ _ _ _ _ us hl => match us, hl with | [_, _], _ => rfl⟩
theorem sc_list_powers : FnScope ["count", "powers", "power"] ["count"] (defScope s_list_powers) := ⟨rfl, rfl, rfl, by decide +kernel, rfl, by decide +kernel, by decide +kernel⟩
theorem dv_list_powers {f : Addr} {cdv : Value} {A : Around} {outer : List Env} {s : Shared} {H : Hp} {E : XK} (T : Txt K mg a_MARK) (hr : Room 0 (A.deeper (envOfC "list_powers" (defScope s_list_powers) s.heap.objs.size f cdv))) :
    PSs (cxOf CX0 P w K mg base ["count", "powers", "power"] "list_powers" (defScope s_list_powers) f cdv A outer s H E).nox (defBody s_list_powers) (t_list_powers K) :=
  (pss_cons (ps_set (i := 1) sc_list_powers.nd rfl (Or.inl rfl) (pe_lst pa_nil))
    (pss_cons (ps_set (i := 2) sc_list_powers.nd rfl (Or.inl rfl) pe_int)
    (pss_cons (ps_while PassesOwn.never (pt_cmpR op_lt (pe_callB cr_len rfl T.n_len PySem.boot_len (pa_cons (pv 1) pa_nil)) (pv 0) (nomark _)) (pss_cons (ps_expr (pe_bm PySem.F.plainAttrs_list PySem.F.slot_list_append PySem.F.type_list_append mt_append (pv 1) (pa_cons (pv 2) pa_nil)))
    (pss_one (ps_set (i := 2) sc_list_powers.nd rfl (Or.inl rfl) (pe_op op_mul pe_int (pv 2))))))
    (pss_one (ps_ret (pv 1))))))
theorem cal_list_powers {f : Addr} {fd : FuncData} (F : Fun K "list_powers" "list_powers" s_list_powers f fd) (T : Txt K mg a_MARK) (hm : mg "list_powers" = some (.ref f)) : Cal P w K mg base "list_powers" 1 ["count"] (sp_list_powers K) := by
  have G : FnOk P w K mg base CX0 1 f fd ["count"] (sp_list_powers K) := F.ok sc_list_powers (fun vs H Q E h => ln_list_powers h) (fun cdv A outer s H vs Q E hr h => ⟨_, dv_list_powers T hr, rd_list_powers h⟩)
  exact ⟨f, fd, G, hm, F.kp, F.binds fun _ _ _ _ _ _ us hl => match us, hl with | [_], _ => rfl⟩
theorem sc_count_independent : FnScope ["sums", "counted", "whole", "rest", "known"] ["sums"] (defScope s_count_independent) := ⟨rfl, rfl, rfl, by decide +kernel, rfl, by decide +kernel, by decide +kernel⟩
theorem dv_count_independent {f : Addr} {cdv : Value} {A : Around} {outer : List Env} {s : Shared} {H : Hp} {E : XK} (T : Txt K mg a_MARK) (hr : Room 0 (A.deeper (envOfC "count_independent" (defScope s_count_independent) s.heap.objs.size f cdv))) :
    PSs (cxOf CX0 P w K mg base ["sums", "counted", "whole", "rest", "known"] "count_independent" (defScope s_count_independent) f cdv A outer s H E).nox (defBody s_count_independent) (t_count_independent K) :=
  (pss_cons (ps_set (i := 1) sc_count_independent.nd rfl (Or.inl rfl) (pe_lst pa_nil))
    (pss_cons (ps_for PassesOwn.never rfl (pi_list (pv 0)) (pg_name (i := 2) sc_count_independent.nd rfl (Or.inl rfl)) (pss_cons (ps_set (i := 3) sc_count_independent.nd rfl (Or.inl rfl) (pv 2))
    (pss_cons (ps_for PassesOwn.never rfl (pi_list (pv 1)) (pg_name (i := 4) sc_count_independent.nd rfl (Or.inl rfl)) (pss_one (ps_set (i := 3) sc_count_independent.nd rfl (Or.inl rfl) (pe_callB (cr_min2 rfl) rfl T.n_min (by decide +kernel) (pa_cons (pv 3) (pa_cons (pe_op op_xor (pv 3) (pv 4)) pa_nil))))))
    (pss_one (ps_if (pt_cmpR op_gt (pv 3) pe_int (nomark _)) (pss_one (ps_expr (pe_bm PySem.F.plainAttrs_list PySem.F.slot_list_append PySem.F.type_list_append mt_append (pv 1) (pa_cons (pv 3) pa_nil)))) pss_nil)))))
    (pss_one (ps_ret (pe_callB cr_len rfl T.n_len PySem.boot_len (pa_cons (pv 1) pa_nil))))))
theorem cal_count_independent {f : Addr} {fd : FuncData} (F : Fun K "count_independent" "count_independent" s_count_independent f fd) (T : Txt K mg a_MARK) (hm : mg "count_independent" = some (.ref f)) : Cal P w K mg base "count_independent" 1 ["sums"] (sp_count_independent K) := by
  have G : FnOk P w K mg base CX0 1 f fd ["sums"] (sp_count_independent K) := F.ok sc_count_independent (fun vs H Q E h => ln_count_independent h) (fun cdv A outer s H vs Q E hr h => ⟨_, dv_count_independent T hr, rd_count_independent h⟩)
  exact ⟨f, fd, G, hm, F.kp, F.binds fun _ _ _ _ _ _ us hl => match us, hl with | [_], _ => rfl⟩
theorem sc_count_free : FnScope ["b", "digits"] ["b"] (defScope s_count_free) := ⟨rfl, rfl, rfl, by decide +kernel, rfl, by decide +kernel, by decide +kernel⟩
theorem dv_count_free {f : Addr} {cdv : Value} {A : Around} {outer : List Env} {s : Shared} {H : Hp} {E : XK} (T : Txt K mg a_MARK) (C_count_marks : Cal P w K mg base "count_marks" 2 ["b"] (sp_count_marks K)) (C_add_around : Cal P w K mg base "add_around" 4 ["b", "m"] (sp_add_around K)) (C_add_beside : Cal P w K mg base "add_beside" 3 ["b", "m"] (sp_add_beside K)) (C_list_powers : Cal P w K mg base "list_powers" 1 ["count"] (sp_list_powers K)) (C_count_independent : Cal P w K mg base "count_independent" 1 ["sums"] (sp_count_independent K)) (hr : Room 4 (A.deeper (envOfC "count_free" (defScope s_count_free) s.heap.objs.size f cdv))) :
    PSs (cxOf CX0 P w K mg base ["b", "digits"] "count_free" (defScope s_count_free) f cdv A outer s H E).nox (defBody s_count_free) (t_count_free K) :=
  (pss_cons (ps_set (i := 1) sc_count_free.nd rfl (Or.inl rfl) (pe_own C_list_powers (hr.mono (by decide)) (pa_cons (pe_own C_count_marks (hr.mono (by decide)) (pa_cons (pv 0) pa_nil)) pa_nil)))
    (pss_one (ps_ret (pe_op op_sub (pe_callB cr_len rfl T.n_len PySem.boot_len (pa_cons (pv 1) pa_nil)) (pe_own C_count_independent (hr.mono (by decide)) (pa_cons (pe_op op_cat (pe_own C_add_around (hr.mono (by decide)) (pa_cons (pv 0) (pa_cons (pv 1) pa_nil))) (pe_own C_add_beside (hr.mono (by decide)) (pa_cons (pv 0) (pa_cons (pv 1) pa_nil)))) pa_nil))))))
theorem cal_count_free {f : Addr} {fd : FuncData} (F : Fun K "count_free" "count_free" s_count_free f fd) (T : Txt K mg a_MARK) (C_count_marks : Cal P w K mg base "count_marks" 2 ["b"] (sp_count_marks K)) (C_add_around : Cal P w K mg base "add_around" 4 ["b", "m"] (sp_add_around K)) (C_add_beside : Cal P w K mg base "add_beside" 3 ["b", "m"] (sp_add_beside K)) (C_list_powers : Cal P w K mg base "list_powers" 1 ["count"] (sp_list_powers K)) (C_count_independent : Cal P w K mg base "count_independent" 1 ["sums"] (sp_count_independent K)) (hm : mg "count_free" = some (.ref f)) : Cal P w K mg base "count_free" 5 ["b"] (sp_count_free K) := by
  have G : FnOk P w K mg base CX0 5 f fd ["b"] (sp_count_free K) := F.ok sc_count_free (fun vs H Q E h => ln_count_free h) (fun cdv A outer s H vs Q E hr h => ⟨_, dv_count_free T C_count_marks C_add_around C_add_beside C_list_powers C_count_independent hr, rd_count_free h⟩)
  exact ⟨f, fd, G, hm, F.kp, F.binds fun _ _ _ _ _ _ us hl => match us, hl with | [_], _ => rfl⟩
theorem sc_is_too_long : FnScope ["numbers"] ["numbers"] (defScope s_is_too_long) := ⟨rfl, rfl, rfl, by decide +kernel, rfl, by decide +kernel, by decide +kernel⟩
theorem dv_is_too_long {f : Addr} {cdv : Value} {A : Around} {outer : List Env} {s : Shared} {H : Hp} {E : XK} (T : Txt K mg a_MARK) (hr : Room 0 (A.deeper (envOfC "is_too_long" (defScope s_is_too_long) s.heap.objs.size f cdv))) :
    PSs (cxOf CX0 P w K mg base ["numbers"] "is_too_long" (defScope s_is_too_long) f cdv A outer s H E).nox (defBody s_is_too_long) (t_is_too_long K) :=
  (pss_one (ps_ret (pe_cmpR op_gt (pe_callB cr_len rfl T.n_len PySem.boot_len (pa_cons (pv 0) pa_nil)) (pe_gint T.m_MOST_NUMBERS) (nomark _))))
theorem cal_is_too_long {f : Addr} {fd : FuncData} (F : Fun K "is_too_long" "is_too_long" s_is_too_long f fd) (T : Txt K mg a_MARK) (hm : mg "is_too_long" = some (.ref f)) : Cal P w K mg base "is_too_long" 1 ["numbers"] (sp_is_too_long K) := by
  have G : FnOk P w K mg base CX0 1 f fd ["numbers"] (sp_is_too_long K) := F.ok sc_is_too_long (fun vs H Q E h => ln_is_too_long h) (fun cdv A outer s H vs Q E hr h => ⟨_, dv_is_too_long T hr, rd_is_too_long h⟩)
  exact ⟨f, fd, G, hm, F.kp, F.binds fun _ _ _ _ _ _ us hl => match us, hl with | [_], _ => rfl⟩
theorem sc_find_refusal : FnScope ["b"] ["b"] (defScope s_find_refusal) := ⟨rfl, rfl, rfl, by decide +kernel, rfl, by decide +kernel, by decide +kernel⟩
theorem dv_find_refusal {f : Addr} {cdv : Value} {A : Around} {outer : List Env} {s : Shared} {H : Hp} {E : XK} (T : Txt K mg a_MARK) (C_find_fault : Cal P w K mg base "find_fault" 3 ["b"] (sp_find_fault K)) (C_is_too_long : Cal P w K mg base "is_too_long" 1 ["numbers"] (sp_is_too_long K)) (hr : Room 3 (A.deeper (envOfC "find_refusal" (defScope s_find_refusal) s.heap.objs.size f cdv))) :
    PSs (cxOf CX0 P w K mg base ["b"] "find_refusal" (defScope s_find_refusal) f cdv A outer s H E).nox (defBody s_find_refusal) (t_find_refusal K) :=
  (pss_cons (ps_if (pt_val (pe_own C_is_too_long (hr.mono (by decide)) (pa_cons (pv 0) pa_nil))) (pss_one (ps_ret (pe_gint T.m_TOO_LONG))) pss_nil)
    (pss_cons (ps_if (pt_cmpR op_notN' (pe_own C_find_fault (hr.mono (by decide)) (pa_cons (pv 0) pa_nil)) pe_non (nomark _)) (pss_one (ps_ret (pe_gint T.m_NOT_RIGHT))) pss_nil)
    (pss_one (ps_ret pe_int))))
theorem cal_find_refusal {f : Addr} {fd : FuncData} (F : Fun K "find_refusal" "find_refusal" s_find_refusal f fd) (T : Txt K mg a_MARK) (C_find_fault : Cal P w K mg base "find_fault" 3 ["b"] (sp_find_fault K)) (C_is_too_long : Cal P w K mg base "is_too_long" 1 ["numbers"] (sp_is_too_long K)) (hm : mg "find_refusal" = some (.ref f)) : Cal P w K mg base "find_refusal" 4 ["b"] (sp_find_refusal K) := by
  have G : FnOk P w K mg base CX0 4 f fd ["b"] (sp_find_refusal K) := F.ok sc_find_refusal (fun vs H Q E h => ln_find_refusal h) (fun cdv A outer s H vs Q E hr h => ⟨_, dv_find_refusal T C_find_fault C_is_too_long hr, rd_find_refusal h⟩)
  exact ⟨f, fd, G, hm, F.kp, F.binds fun _ _ _ _ _ _ us hl => match us, hl with | [_], _ => rfl⟩
theorem sc_free : FnScope ["b", "refusal"] ["b"] (defScope s_free) := ⟨rfl, rfl, rfl, by decide +kernel, rfl, by decide +kernel, by decide +kernel⟩
theorem dv_free {f : Addr} {cdv : Value} {A : Around} {outer : List Env} {s : Shared} {H : Hp} {E : XK} (T : Txt K mg a_MARK) (C_count_free : Cal P w K mg base "count_free" 5 ["b"] (sp_count_free K)) (C_find_refusal : Cal P w K mg base "find_refusal" 4 ["b"] (sp_find_refusal K)) (hr : Room 5 (A.deeper (envOfC "free" (defScope s_free) s.heap.objs.size f cdv))) :
    PSs (cxOf CX0 P w K mg base ["b", "refusal"] "free" (defScope s_free) f cdv A outer s H E).nox (defBody s_free) (t_free K) :=
  (pss_cons (ps_set (i := 1) sc_free.nd rfl (Or.inl rfl) (pe_own C_find_refusal (hr.mono (by decide)) (pa_cons (pv 0) pa_nil)))
    (pss_cons (ps_if (pt_cmpR op_lt (pv 1) pe_int (nomark _)) (pss_one (ps_ret (pe_lst (pa_cons (pv 1) pa_nil)))) pss_nil)
    (pss_one (ps_ret (pe_lst (pa_cons (pe_own C_count_free (hr.mono (by decide)) (pa_cons (pv 0) pa_nil)) pa_nil))))))
end
theorem all_mk {P : Program} {w : World} {K : PySem.W.Frag} {h : Heap} {mg : Str → Option Value} {fa : Addr} (X : K.In h) (G : h.Ns mainGlobals mg) (hfa : mg "free" = some (.ref fa)) {a_MARK : Addr}
    {t_WIDE_AT : Tok}
    {t_HIGH_AT : Tok}
    {t_PLACES_AT : Tok}
    {t_MOST_SQUARES : Tok}
    {t_MOST_SIGN : Tok}
    {t_CROSSING : Tok}
    {t_ACROSS : Tok}
    {t_MOST_NUMBERS : Tok}
    {t_TOO_LONG : Tok}
    {t_NOT_RIGHT : Tok}
    {od_MARK : Option Addr} {nn_MARK : Nat} {sl_MARK : Array (Option Value)}
    {t_MARK_0 : Tok}
    {t_MARK_1 : Tok}
    {t_MARK_2 : Tok}
    {t_MARK_3 : Tok}
    {f_count_uprights : Addr} {oc_count_uprights kV_count_uprights dc_count_uprights pm_count_uprights cd_count_uprights ct_count_uprights : Value} {od_count_uprights an_count_uprights : Option Addr} {sl_count_uprights : Array (Option Value)}
    {f_count_squares : Addr} {oc_count_squares kV_count_squares dc_count_squares pm_count_squares cd_count_squares ct_count_squares : Value} {od_count_squares an_count_squares : Option Addr} {sl_count_squares : Array (Option Value)}
    {f_count_places : Addr} {oc_count_places kV_count_places dc_count_places pm_count_places cd_count_places ct_count_places : Value} {od_count_places an_count_places : Option Addr} {sl_count_places : Array (Option Value)}
    {f_find_fault : Addr} {oc_find_fault kV_find_fault dc_find_fault pm_find_fault cd_find_fault ct_find_fault : Value} {od_find_fault an_find_fault : Option Addr} {sl_find_fault : Array (Option Value)}
    {f_find_squares : Addr} {oc_find_squares kV_find_squares dc_find_squares pm_find_squares cd_find_squares ct_find_squares : Value} {od_find_squares an_find_squares : Option Addr} {sl_find_squares : Array (Option Value)}
    {f_list_places_with : Addr} {oc_list_places_with kV_list_places_with dc_list_places_with pm_list_places_with cd_list_places_with ct_list_places_with : Value} {od_list_places_with an_list_places_with : Option Addr} {sl_list_places_with : Array (Option Value)}
    {f_count_marks : Addr} {oc_count_marks kV_count_marks dc_count_marks pm_count_marks cd_count_marks ct_count_marks : Value} {od_count_marks an_count_marks : Option Addr} {sl_count_marks : Array (Option Value)}
    {f_list_changes : Addr} {oc_list_changes kV_list_changes dc_list_changes pm_list_changes cd_list_changes ct_list_changes : Value} {od_list_changes an_list_changes : Option Addr} {sl_list_changes : Array (Option Value)}
    {f_add_around : Addr} {oc_add_around kV_add_around dc_add_around pm_add_around cd_add_around ct_add_around : Value} {od_add_around an_add_around : Option Addr} {sl_add_around : Array (Option Value)}
    {f_add_beside : Addr} {oc_add_beside kV_add_beside dc_add_beside pm_add_beside cd_add_beside ct_add_beside : Value} {od_add_beside an_add_beside : Option Addr} {sl_add_beside : Array (Option Value)}
    {f_list_powers : Addr} {oc_list_powers kV_list_powers dc_list_powers pm_list_powers cd_list_powers ct_list_powers : Value} {od_list_powers an_list_powers : Option Addr} {sl_list_powers : Array (Option Value)}
    {f_count_independent : Addr} {oc_count_independent kV_count_independent dc_count_independent pm_count_independent cd_count_independent ct_count_independent : Value} {od_count_independent an_count_independent : Option Addr} {sl_count_independent : Array (Option Value)}
    {f_count_free : Addr} {oc_count_free kV_count_free dc_count_free pm_count_free cd_count_free ct_count_free : Value} {od_count_free an_count_free : Option Addr} {sl_count_free : Array (Option Value)}
    {f_is_too_long : Addr} {oc_is_too_long kV_is_too_long dc_is_too_long pm_is_too_long cd_is_too_long ct_is_too_long : Value} {od_is_too_long an_is_too_long : Option Addr} {sl_is_too_long : Array (Option Value)}
    {f_find_refusal : Addr} {oc_find_refusal kV_find_refusal dc_find_refusal pm_find_refusal cd_find_refusal ct_find_refusal : Value} {od_find_refusal an_find_refusal : Option Addr} {sl_find_refusal : Array (Option Value)}
    {f_free : Addr} {oc_free kV_free dc_free pm_free cd_free ct_free : Value} {od_free an_free : Option Addr} {sl_free : Array (Option Value)}
    (x_MARK : PySem.W.nsIn K mainGlobals "MARK" = some (some (.ref a_MARK)))
    (x_WIDE_AT : PySem.W.nsIn K mainGlobals "WIDE_AT" = some (some (.int 4 t_WIDE_AT)))
    (x_HIGH_AT : PySem.W.nsIn K mainGlobals "HIGH_AT" = some (some (.int 5 t_HIGH_AT)))
    (x_PLACES_AT : PySem.W.nsIn K mainGlobals "PLACES_AT" = some (some (.int 6 t_PLACES_AT)))
    (x_MOST_SQUARES : PySem.W.nsIn K mainGlobals "MOST_SQUARES" = some (some (.int 8 t_MOST_SQUARES)))
    (x_MOST_SIGN : PySem.W.nsIn K mainGlobals "MOST_SIGN" = some (some (.int 2 t_MOST_SIGN)))
    (x_CROSSING : PySem.W.nsIn K mainGlobals "CROSSING" = some (some (.int 0 t_CROSSING)))
    (x_ACROSS : PySem.W.nsIn K mainGlobals "ACROSS" = some (some (.int 2 t_ACROSS)))
    (x_MOST_NUMBERS : PySem.W.nsIn K mainGlobals "MOST_NUMBERS" = some (some (.int 1024 t_MOST_NUMBERS)))
    (x_TOO_LONG : PySem.W.nsIn K mainGlobals "TOO_LONG" = some (some (.int (-2) t_TOO_LONG)))
    (x_NOT_RIGHT : PySem.W.nsIn K mainGlobals "NOT_RIGHT" = some (some (.int (-6) t_NOT_RIGHT)))
    (y_MARK : K.lookup a_MARK = some ⟨.type "tuple", od_MARK, .seq #[.int 80 t_MARK_0, .int 76 t_MARK_1, .int 80 t_MARK_2, .int 49 t_MARK_3] nn_MARK, sl_MARK⟩)
    (a_count_uprights : PySem.W.nsIn K mainGlobals "count_uprights" = some (some (.ref f_count_uprights)))
    (l_count_uprights : K.lookup f_count_uprights = some ⟨oc_count_uprights, od_count_uprights, .func (PySem.W.fnOf "count_uprights" "count_uprights" (defArgs s_count_uprights) (defBody s_count_uprights) (defScope s_count_uprights) .none kV_count_uprights dc_count_uprights pm_count_uprights an_count_uprights cd_count_uprights ct_count_uprights), sl_count_uprights⟩)
    (c_count_uprights : PySem.W.codeIn K cd_count_uprights "count_uprights" = true)
    (k_count_uprights : PySem.W.keepIn K (.ref f_count_uprights) = true)
    (a_count_squares : PySem.W.nsIn K mainGlobals "count_squares" = some (some (.ref f_count_squares)))
    (l_count_squares : K.lookup f_count_squares = some ⟨oc_count_squares, od_count_squares, .func (PySem.W.fnOf "count_squares" "count_squares" (defArgs s_count_squares) (defBody s_count_squares) (defScope s_count_squares) .none kV_count_squares dc_count_squares pm_count_squares an_count_squares cd_count_squares ct_count_squares), sl_count_squares⟩)
    (c_count_squares : PySem.W.codeIn K cd_count_squares "count_squares" = true)
    (k_count_squares : PySem.W.keepIn K (.ref f_count_squares) = true)
    (a_count_places : PySem.W.nsIn K mainGlobals "count_places" = some (some (.ref f_count_places)))
    (l_count_places : K.lookup f_count_places = some ⟨oc_count_places, od_count_places, .func (PySem.W.fnOf "count_places" "count_places" (defArgs s_count_places) (defBody s_count_places) (defScope s_count_places) .none kV_count_places dc_count_places pm_count_places an_count_places cd_count_places ct_count_places), sl_count_places⟩)
    (c_count_places : PySem.W.codeIn K cd_count_places "count_places" = true)
    (k_count_places : PySem.W.keepIn K (.ref f_count_places) = true)
    (a_find_fault : PySem.W.nsIn K mainGlobals "find_fault" = some (some (.ref f_find_fault)))
    (l_find_fault : K.lookup f_find_fault = some ⟨oc_find_fault, od_find_fault, .func (PySem.W.fnOf "find_fault" "find_fault" (defArgs s_find_fault) (defBody s_find_fault) (defScope s_find_fault) .none kV_find_fault dc_find_fault pm_find_fault an_find_fault cd_find_fault ct_find_fault), sl_find_fault⟩)
    (c_find_fault : PySem.W.codeIn K cd_find_fault "find_fault" = true)
    (k_find_fault : PySem.W.keepIn K (.ref f_find_fault) = true)
    (a_find_squares : PySem.W.nsIn K mainGlobals "find_squares" = some (some (.ref f_find_squares)))
    (l_find_squares : K.lookup f_find_squares = some ⟨oc_find_squares, od_find_squares, .func (PySem.W.fnOf "find_squares" "find_squares" (defArgs s_find_squares) (defBody s_find_squares) (defScope s_find_squares) .none kV_find_squares dc_find_squares pm_find_squares an_find_squares cd_find_squares ct_find_squares), sl_find_squares⟩)
    (c_find_squares : PySem.W.codeIn K cd_find_squares "find_squares" = true)
    (k_find_squares : PySem.W.keepIn K (.ref f_find_squares) = true)
    (a_list_places_with : PySem.W.nsIn K mainGlobals "list_places_with" = some (some (.ref f_list_places_with)))
    (l_list_places_with : K.lookup f_list_places_with = some ⟨oc_list_places_with, od_list_places_with, .func (PySem.W.fnOf "list_places_with" "list_places_with" (defArgs s_list_places_with) (defBody s_list_places_with) (defScope s_list_places_with) .none kV_list_places_with dc_list_places_with pm_list_places_with an_list_places_with cd_list_places_with ct_list_places_with), sl_list_places_with⟩)
    (c_list_places_with : PySem.W.codeIn K cd_list_places_with "list_places_with" = true)
    (k_list_places_with : PySem.W.keepIn K (.ref f_list_places_with) = true)
    (a_count_marks : PySem.W.nsIn K mainGlobals "count_marks" = some (some (.ref f_count_marks)))
    (l_count_marks : K.lookup f_count_marks = some ⟨oc_count_marks, od_count_marks, .func (PySem.W.fnOf "count_marks" "count_marks" (defArgs s_count_marks) (defBody s_count_marks) (defScope s_count_marks) .none kV_count_marks dc_count_marks pm_count_marks an_count_marks cd_count_marks ct_count_marks), sl_count_marks⟩)
    (c_count_marks : PySem.W.codeIn K cd_count_marks "count_marks" = true)
    (k_count_marks : PySem.W.keepIn K (.ref f_count_marks) = true)
    (a_list_changes : PySem.W.nsIn K mainGlobals "list_changes" = some (some (.ref f_list_changes)))
    (l_list_changes : K.lookup f_list_changes = some ⟨oc_list_changes, od_list_changes, .func (PySem.W.fnOf "list_changes" "list_changes" (defArgs s_list_changes) (defBody s_list_changes) (defScope s_list_changes) .none kV_list_changes dc_list_changes pm_list_changes an_list_changes cd_list_changes ct_list_changes), sl_list_changes⟩)
    (c_list_changes : PySem.W.codeIn K cd_list_changes "list_changes" = true)
    (k_list_changes : PySem.W.keepIn K (.ref f_list_changes) = true)
    (a_add_around : PySem.W.nsIn K mainGlobals "add_around" = some (some (.ref f_add_around)))
    (l_add_around : K.lookup f_add_around = some ⟨oc_add_around, od_add_around, .func (PySem.W.fnOf "add_around" "add_around" (defArgs s_add_around) (defBody s_add_around) (defScope s_add_around) .none kV_add_around dc_add_around pm_add_around an_add_around cd_add_around ct_add_around), sl_add_around⟩)
    (c_add_around : PySem.W.codeIn K cd_add_around "add_around" = true)
    (k_add_around : PySem.W.keepIn K (.ref f_add_around) = true)
    (a_add_beside : PySem.W.nsIn K mainGlobals "add_beside" = some (some (.ref f_add_beside)))
    (l_add_beside : K.lookup f_add_beside = some ⟨oc_add_beside, od_add_beside, .func (PySem.W.fnOf "add_beside" "add_beside" (defArgs s_add_beside) (defBody s_add_beside) (defScope s_add_beside) .none kV_add_beside dc_add_beside pm_add_beside an_add_beside cd_add_beside ct_add_beside), sl_add_beside⟩)
    (c_add_beside : PySem.W.codeIn K cd_add_beside "add_beside" = true)
    (k_add_beside : PySem.W.keepIn K (.ref f_add_beside) = true)
    (a_list_powers : PySem.W.nsIn K mainGlobals "list_powers" = some (some (.ref f_list_powers)))
    (l_list_powers : K.lookup f_list_powers = some ⟨oc_list_powers, od_list_powers, .func (PySem.W.fnOf "list_powers" "list_powers" (defArgs s_list_powers) (defBody s_list_powers) (defScope s_list_powers) .none kV_list_powers dc_list_powers pm_list_powers an_list_powers cd_list_powers ct_list_powers), sl_list_powers⟩)
    (c_list_powers : PySem.W.codeIn K cd_list_powers "list_powers" = true)
    (k_list_powers : PySem.W.keepIn K (.ref f_list_powers) = true)
    (a_count_independent : PySem.W.nsIn K mainGlobals "count_independent" = some (some (.ref f_count_independent)))
    (l_count_independent : K.lookup f_count_independent = some ⟨oc_count_independent, od_count_independent, .func (PySem.W.fnOf "count_independent" "count_independent" (defArgs s_count_independent) (defBody s_count_independent) (defScope s_count_independent) .none kV_count_independent dc_count_independent pm_count_independent an_count_independent cd_count_independent ct_count_independent), sl_count_independent⟩)
    (c_count_independent : PySem.W.codeIn K cd_count_independent "count_independent" = true)
    (k_count_independent : PySem.W.keepIn K (.ref f_count_independent) = true)
    (a_count_free : PySem.W.nsIn K mainGlobals "count_free" = some (some (.ref f_count_free)))
    (l_count_free : K.lookup f_count_free = some ⟨oc_count_free, od_count_free, .func (PySem.W.fnOf "count_free" "count_free" (defArgs s_count_free) (defBody s_count_free) (defScope s_count_free) .none kV_count_free dc_count_free pm_count_free an_count_free cd_count_free ct_count_free), sl_count_free⟩)
    (c_count_free : PySem.W.codeIn K cd_count_free "count_free" = true)
    (k_count_free : PySem.W.keepIn K (.ref f_count_free) = true)
    (a_is_too_long : PySem.W.nsIn K mainGlobals "is_too_long" = some (some (.ref f_is_too_long)))
    (l_is_too_long : K.lookup f_is_too_long = some ⟨oc_is_too_long, od_is_too_long, .func (PySem.W.fnOf "is_too_long" "is_too_long" (defArgs s_is_too_long) (defBody s_is_too_long) (defScope s_is_too_long) .none kV_is_too_long dc_is_too_long pm_is_too_long an_is_too_long cd_is_too_long ct_is_too_long), sl_is_too_long⟩)
    (c_is_too_long : PySem.W.codeIn K cd_is_too_long "is_too_long" = true)
    (k_is_too_long : PySem.W.keepIn K (.ref f_is_too_long) = true)
    (a_find_refusal : PySem.W.nsIn K mainGlobals "find_refusal" = some (some (.ref f_find_refusal)))
    (l_find_refusal : K.lookup f_find_refusal = some ⟨oc_find_refusal, od_find_refusal, .func (PySem.W.fnOf "find_refusal" "find_refusal" (defArgs s_find_refusal) (defBody s_find_refusal) (defScope s_find_refusal) .none kV_find_refusal dc_find_refusal pm_find_refusal an_find_refusal cd_find_refusal ct_find_refusal), sl_find_refusal⟩)
    (c_find_refusal : PySem.W.codeIn K cd_find_refusal "find_refusal" = true)
    (k_find_refusal : PySem.W.keepIn K (.ref f_find_refusal) = true)
    (a_free : PySem.W.nsIn K mainGlobals "free" = some (some (.ref f_free)))
    (l_free : K.lookup f_free = some ⟨oc_free, od_free, .func (PySem.W.fnOf "free" "free" (defArgs s_free) (defBody s_free) (defScope s_free) .none kV_free dc_free pm_free an_free cd_free ct_free), sl_free⟩)
    (c_free : PySem.W.codeIn K cd_free "free" = true)
    (k_free : PySem.W.keepIn K (.ref f_free) = true)
    (z_dict : PySem.W.nsIn K mainGlobals "dict" = some none)
    (z_enumerate : PySem.W.nsIn K mainGlobals "enumerate" = some none)
    (z_len : PySem.W.nsIn K mainGlobals "len" = some none)
    (z_min : PySem.W.nsIn K mainGlobals "min" = some none)
    (z_range : PySem.W.nsIn K mainGlobals "range" = some none)
    (z_tuple : PySem.W.nsIn K mainGlobals "tuple" = some none)
    (z_zip : PySem.W.nsIn K mainGlobals "zip" = some none)
    : ∃ fd : FuncData, (∀ (s : Shared) (us : List Value), us.length = (["b"] : List Str).length → BindsTo s fd ⟨us, []⟩ ((["b"] : List Str).zip us)) ∧ ∀ base : Heap, K.In base → base.Ns mainGlobals mg → FnOk P w K mg base CX0 6 fa fd ["b"] (sp_free K) := by
  have e := hfa.symm.trans (PySem.W.mg_of X G a_free)
  cases e
  have T : Txt K mg a_MARK := {
    m_MARK := PySem.W.mg_of X G x_MARK
    m_WIDE_AT := ⟨_, PySem.W.mg_of X G x_WIDE_AT⟩
    m_HIGH_AT := ⟨_, PySem.W.mg_of X G x_HIGH_AT⟩
    m_PLACES_AT := ⟨_, PySem.W.mg_of X G x_PLACES_AT⟩
    m_MOST_SQUARES := ⟨_, PySem.W.mg_of X G x_MOST_SQUARES⟩
    m_MOST_SIGN := ⟨_, PySem.W.mg_of X G x_MOST_SIGN⟩
    m_CROSSING := ⟨_, PySem.W.mg_of X G x_CROSSING⟩
    m_ACROSS := ⟨_, PySem.W.mg_of X G x_ACROSS⟩
    m_MOST_NUMBERS := ⟨_, PySem.W.mg_of X G x_MOST_NUMBERS⟩
    m_TOO_LONG := ⟨_, PySem.W.mg_of X G x_TOO_LONG⟩
    m_NOT_RIGHT := ⟨_, PySem.W.mg_of X G x_NOT_RIGHT⟩
    q_MARK := fun H => .inr ⟨_, _, _, y_MARK, rfl, rfl, (by show 4 ≤ sizeLine; decide), (.cons ⟨_, rfl⟩ (.cons ⟨_, rfl⟩ (.cons ⟨_, rfl⟩ (.cons ⟨_, rfl⟩ .nil))))⟩
    n_dict := PySem.W.mg_none_of X G z_dict
    n_enumerate := PySem.W.mg_none_of X G z_enumerate
    n_len := PySem.W.mg_none_of X G z_len
    n_min := PySem.W.mg_none_of X G z_min
    n_range := PySem.W.mg_none_of X G z_range
    n_tuple := PySem.W.mg_none_of X G z_tuple
    n_zip := PySem.W.mg_none_of X G z_zip
  }
  have F_count_uprights := fun_mk (st := s_count_uprights) l_count_uprights c_count_uprights k_count_uprights
  have F_count_squares := fun_mk (st := s_count_squares) l_count_squares c_count_squares k_count_squares
  have F_count_places := fun_mk (st := s_count_places) l_count_places c_count_places k_count_places
  have F_find_fault := fun_mk (st := s_find_fault) l_find_fault c_find_fault k_find_fault
  have F_find_squares := fun_mk (st := s_find_squares) l_find_squares c_find_squares k_find_squares
  have F_list_places_with := fun_mk (st := s_list_places_with) l_list_places_with c_list_places_with k_list_places_with
  have F_count_marks := fun_mk (st := s_count_marks) l_count_marks c_count_marks k_count_marks
  have F_list_changes := fun_mk (st := s_list_changes) l_list_changes c_list_changes k_list_changes
  have F_add_around := fun_mk (st := s_add_around) l_add_around c_add_around k_add_around
  have F_add_beside := fun_mk (st := s_add_beside) l_add_beside c_add_beside k_add_beside
  have F_list_powers := fun_mk (st := s_list_powers) l_list_powers c_list_powers k_list_powers
  have F_count_independent := fun_mk (st := s_count_independent) l_count_independent c_count_independent k_count_independent
  have F_count_free := fun_mk (st := s_count_free) l_count_free c_count_free k_count_free
  have F_is_too_long := fun_mk (st := s_is_too_long) l_is_too_long c_is_too_long k_is_too_long
  have F_find_refusal := fun_mk (st := s_find_refusal) l_find_refusal c_find_refusal k_find_refusal
  have F_free := fun_mk (st := s_free) l_free c_free k_free
  refine ⟨PySem.W.fnOf "free" "free" (defArgs s_free) (defBody s_free) (defScope s_free) .none kV_free dc_free pm_free an_free cd_free ct_free, fun s us hu => match us, hu with | [_], _ => .of_eq rfl, fun base _ _ => ?_⟩
  have C_count_uprights : Cal P w K mg base "count_uprights" 1 ["wide", "high"] (sp_count_uprights K) := cal_count_uprights F_count_uprights T (PySem.W.mg_of X G a_count_uprights)
  have C_count_squares : Cal P w K mg base "count_squares" 1 ["b"] (sp_count_squares K) := cal_count_squares F_count_squares T (PySem.W.mg_of X G a_count_squares)
  have C_count_places : Cal P w K mg base "count_places" 2 ["wide", "high"] (sp_count_places K) := cal_count_places F_count_places T C_count_uprights (PySem.W.mg_of X G a_count_places)
  have C_find_fault : Cal P w K mg base "find_fault" 3 ["b"] (sp_find_fault K) := cal_find_fault F_find_fault T C_count_places (PySem.W.mg_of X G a_find_fault)
  have C_find_squares : Cal P w K mg base "find_squares" 2 ["p", "wide", "high"] (sp_find_squares K) := cal_find_squares F_find_squares T C_count_uprights (PySem.W.mg_of X G a_find_squares)
  have C_list_places_with : Cal P w K mg base "list_places_with" 1 ["sign", "b"] (sp_list_places_with K) := cal_list_places_with F_list_places_with T (PySem.W.mg_of X G a_list_places_with)
  have C_count_marks : Cal P w K mg base "count_marks" 2 ["b"] (sp_count_marks K) := cal_count_marks F_count_marks T C_count_squares C_list_places_with (PySem.W.mg_of X G a_count_marks)
  have C_list_changes : Cal P w K mg base "list_changes" 3 ["b", "m"] (sp_list_changes K) := cal_list_changes F_list_changes T C_count_squares C_find_squares C_list_places_with (PySem.W.mg_of X G a_list_changes)
  have C_add_around : Cal P w K mg base "add_around" 4 ["b", "m"] (sp_add_around K) := cal_add_around F_add_around T C_count_squares C_find_squares C_list_changes (PySem.W.mg_of X G a_add_around)
  have C_add_beside : Cal P w K mg base "add_beside" 3 ["b", "m"] (sp_add_beside K) := cal_add_beside F_add_beside T C_find_squares C_list_places_with (PySem.W.mg_of X G a_add_beside)
  have C_list_powers : Cal P w K mg base "list_powers" 1 ["count"] (sp_list_powers K) := cal_list_powers F_list_powers T (PySem.W.mg_of X G a_list_powers)
  have C_count_independent : Cal P w K mg base "count_independent" 1 ["sums"] (sp_count_independent K) := cal_count_independent F_count_independent T (PySem.W.mg_of X G a_count_independent)
  have C_count_free : Cal P w K mg base "count_free" 5 ["b"] (sp_count_free K) := cal_count_free F_count_free T C_count_marks C_add_around C_add_beside C_list_powers C_count_independent (PySem.W.mg_of X G a_count_free)
  have C_is_too_long : Cal P w K mg base "is_too_long" 1 ["numbers"] (sp_is_too_long K) := cal_is_too_long F_is_too_long T (PySem.W.mg_of X G a_is_too_long)
  have C_find_refusal : Cal P w K mg base "find_refusal" 4 ["b"] (sp_find_refusal K) := cal_find_refusal F_find_refusal T C_find_fault C_is_too_long (PySem.W.mg_of X G a_find_refusal)
  exact F_free.ok sc_free (fun vs H Q E h => ln_free h) (fun cdv A outer s H vs Q E hr h => ⟨_, dv_free T C_count_free C_find_refusal hr, rd_free h⟩)
end Lw
open PySem PySem.W PyProof.Rows
set_option maxRecDepth 100000 in
set_option maxHeartbeats 0 in
theorem PySem.Challenge.cw_interlace_s21_free_holds : PySem.Challenge.rw_interlace_s21_free.Holds := by
  w_on; k_headS; (case hw => exact ⟨[.list []], by decide +kernel, by decide +kernel⟩)
  k_fillS
  refine L2.walk_specK (r := PySem.Challenge.rw_interlace_s21_free) (k := 6) (CX := L2.CX0) (ps := ["b"]) (sp := fun K => Il.sp_free K) (by decide +kernel) rfl rfl ⟨rfl, by decide, by decide⟩ (fun w h Y => PySem.W.kIn_of Y) ?F ?S (fun _ _ _ _ z => z)
  case F =>
    intro w mg fa h Y KX G hmg
    refine' Lw.all_mk KX G hmg ?x_MARK ?x_WIDE_AT ?x_HIGH_AT ?x_PLACES_AT ?x_MOST_SQUARES ?x_MOST_SIGN ?x_CROSSING ?x_ACROSS ?x_MOST_NUMBERS ?x_TOO_LONG ?x_NOT_RIGHT ?y_MARK ?a_count_uprights ?l_count_uprights ?c_count_uprights ?k_count_uprights ?a_count_squares ?l_count_squares ?c_count_squares ?k_count_squares ?a_count_places ?l_count_places ?c_count_places ?k_count_places ?a_find_fault ?l_find_fault ?c_find_fault ?k_find_fault ?a_find_squares ?l_find_squares ?c_find_squares ?k_find_squares ?a_list_places_with ?l_list_places_with ?c_list_places_with ?k_list_places_with ?a_count_marks ?l_count_marks ?c_count_marks ?k_count_marks ?a_list_changes ?l_list_changes ?c_list_changes ?k_list_changes ?a_add_around ?l_add_around ?c_add_around ?k_add_around ?a_add_beside ?l_add_beside ?c_add_beside ?k_add_beside ?a_list_powers ?l_list_powers ?c_list_powers ?k_list_powers ?a_count_independent ?l_count_independent ?c_count_independent ?k_count_independent ?a_count_free ?l_count_free ?c_count_free ?k_count_free ?a_is_too_long ?l_is_too_long ?c_is_too_long ?k_is_too_long ?a_find_refusal ?l_find_refusal ?c_find_refusal ?k_find_refusal ?a_free ?l_free ?c_free ?k_free ?z_dict ?z_enumerate ?z_len ?z_min ?z_range ?z_tuple ?z_zip
    (case x_MARK => k_is)
    (case x_WIDE_AT => k_is)
    (case x_HIGH_AT => k_is)
    (case x_PLACES_AT => k_is)
    (case x_MOST_SQUARES => k_is)
    (case x_MOST_SIGN => k_is)
    (case x_CROSSING => k_is)
    (case x_ACROSS => k_is)
    (case x_MOST_NUMBERS => k_is)
    (case x_TOO_LONG => k_is)
    (case x_NOT_RIGHT => k_is)
    (case y_MARK => k_is)
    (case a_count_uprights => k_is)
    (case l_count_uprights => k_is)
    (case c_count_uprights => k_is)
    (case k_count_uprights => k_is)
    (case a_count_squares => k_is)
    (case l_count_squares => k_is)
    (case c_count_squares => k_is)
    (case k_count_squares => k_is)
    (case a_count_places => k_is)
    (case l_count_places => k_is)
    (case c_count_places => k_is)
    (case k_count_places => k_is)
    (case a_find_fault => k_is)
    (case l_find_fault => k_is)
    (case c_find_fault => k_is)
    (case k_find_fault => k_is)
    (case a_find_squares => k_is)
    (case l_find_squares => k_is)
    (case c_find_squares => k_is)
    (case k_find_squares => k_is)
    (case a_list_places_with => k_is)
    (case l_list_places_with => k_is)
    (case c_list_places_with => k_is)
    (case k_list_places_with => k_is)
    (case a_count_marks => k_is)
    (case l_count_marks => k_is)
    (case c_count_marks => k_is)
    (case k_count_marks => k_is)
    (case a_list_changes => k_is)
    (case l_list_changes => k_is)
    (case c_list_changes => k_is)
    (case k_list_changes => k_is)
    (case a_add_around => k_is)
    (case l_add_around => k_is)
    (case c_add_around => k_is)
    (case k_add_around => k_is)
    (case a_add_beside => k_is)
    (case l_add_beside => k_is)
    (case c_add_beside => k_is)
    (case k_add_beside => k_is)
    (case a_list_powers => k_is)
    (case l_list_powers => k_is)
    (case c_list_powers => k_is)
    (case k_list_powers => k_is)
    (case a_count_independent => k_is)
    (case l_count_independent => k_is)
    (case c_count_independent => k_is)
    (case k_count_independent => k_is)
    (case a_count_free => k_is)
    (case l_count_free => k_is)
    (case c_count_free => k_is)
    (case k_count_free => k_is)
    (case a_is_too_long => k_is)
    (case l_is_too_long => k_is)
    (case c_is_too_long => k_is)
    (case k_is_too_long => k_is)
    (case a_find_refusal => k_is)
    (case l_find_refusal => k_is)
    (case c_find_refusal => k_is)
    (case k_find_refusal => k_is)
    (case a_free => k_is)
    (case l_free => k_is)
    (case c_free => k_is)
    (case k_free => k_is)
    (case z_dict => k_is)
    (case z_enumerate => k_is)
    (case z_len => k_is)
    (case z_min => k_is)
    (case z_range => k_is)
    (case z_tuple => k_is)
    (case z_zip => k_is)
  case S =>
    intro K H xs a hO hwi hask hx
    have hw0 : (((PySem.W.Codec.inLen 0 2000 a.1 && a.1.all (PySem.W.Codec.inInt 0 255)) && true)) = true := hwi
    obtain ⟨v0, r0, rfl, d0, hx0⟩ := L3.dwAll_cons hx
    have en := L3.dwAll_nil hx0
    subst en
    obtain ⟨p0, rfl, q0⟩ := L3.dw_lst (ns := a.1) d0
    have b0 := (Bool.and_eq_true_iff.mp hw0).1
    have g0 := (Bool.and_eq_true_iff.mp hw0).2
    exact ⟨p0, a.1, rfl, ⟨q0, (L3.in_list b0).2, (L3.in_list b0).1⟩, fun H2 l hl => .lst (L2.SqL.of hl) (L2.dw_ints _)⟩

