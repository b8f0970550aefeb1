import PyProof.Rows.All
import Wide.All
import OpenK.AllK
import Wide.FinOn
import PyProof.EqAt
import PyProof.EqKinds
import PyProof.TupleCall
import KE.BitLaws
import Open.SpecLaws
import KE.OsHead
import KE.OsGo
import PySem.Challenge.RW_interlace_s08_read
set_option Elab.async false
set_option linter.all false
set_option maxRecDepth 100000
/-! THE HAND LAYER, for ints, bools, texts, own classes, lists, tuples, dicts, comprehensions, walks over dicts, enumerate, zip, reversed, texts, calls, loops. Paste it whole ahead of your own text; what your proof does not reach may be deleted. -/
namespace L2
open PySem PySem.Spec PyProof.Rows

/-- a key: an int or a str -/
abbrev Key := Sum Int Str
def keyIs : Key → Value → Bool
  | .inl k, v => Value.isInt k v
  | .inr x, v => Value.isStrOf x v
def keyH (w : World) : Key → Int
  | .inl k => hashInt k
  | .inr x => hashStr w x
theorem keyIs_shape : ∀ {k : Key} {v : Value}, keyIs k v = true → (∃ i t, k = Sum.inl i ∧ v = Value.int i t) ∨ (∃ x t, k = Sum.inr x ∧ v = Value.str x t)
  | .inl i, v, h => by
    obtain ⟨t, e⟩ := Value.isInt_shape (k := i) (v := v) h
    exact .inl ⟨i, t, rfl, e⟩
  | .inr x, v, h => by
    obtain ⟨t, e⟩ := Value.isStrOf_shape (x := x) (v := v) h
    exact .inr ⟨x, t, rfl, e⟩
theorem key_ll (a b : Int) : decide ((Sum.inl a : Key) = Sum.inl b) = (a == b) := by
  by_cases e : a = b
  · subst e; simp
  · have h : ¬ (Sum.inl a : Key) = Sum.inl b := fun q => e (Sum.inl.inj q)
    rw [decide_eq_false h]
    exact (beq_eq_false_iff_ne.mpr e).symm
theorem key_rr (a b : Str) : decide ((Sum.inr a : Key) = Sum.inr b) = decide (a = b) := by
  by_cases e : a = b
  · subst e; simp
  · have h : ¬ (Sum.inr a : Key) = Sum.inr b := fun q => e (Sum.inr.inj q)
    rw [decide_eq_false h, decide_eq_false e]
theorem key_lr (a : Int) (b : Str) : decide ((Sum.inl a : Key) = Sum.inr b) = false := decide_eq_false (fun q => nomatch q)
theorem key_rl (a : Str) (b : Int) : decide ((Sum.inr a : Key) = Sum.inl b) = false := decide_eq_false (fun q => nomatch q)

def mixKind (prog : Program) (w : World) : PySem.KeyKind prog w Key where
  is := keyIs
  hash := keyH w
  inj := fun v a b ha hb => by
    rcases keyIs_shape ha with ⟨i, t, rfl, rfl⟩ | ⟨x, t, rfl, rfl⟩
    · rcases keyIs_shape hb with ⟨j, u, rfl, e⟩ | ⟨y, u, rfl, e⟩
      · injection e with e1 _; rw [e1]
      · exact nomatch e
    · rcases keyIs_shape hb with ⟨j, u, rfl, e⟩ | ⟨y, u, rfl, e⟩
      · exact nomatch e
      · injection e with e1 _; rw [e1]
  byValue := fun k v h => by
    rcases keyIs_shape h with ⟨i, t, rfl, rfl⟩ | ⟨x, t, rfl, rfl⟩ <;> rfl
  pyHash := fun hv h => by
    rcases keyIs_shape hv with ⟨i, t, rfl, rfl⟩ | ⟨x, t, rfl, rfl⟩
    · exact wpAny_pyHash_int h
    · exact wpAny_pyHash_str h
  eqBool := fun hu hv h => by
    rcases keyIs_shape hu with ⟨i, t, rfl, rfl⟩ | ⟨x, t, rfl, rfl⟩
    · rcases keyIs_shape hv with ⟨j, u, rfl, rfl⟩ | ⟨y, u, rfl, rfl⟩
      · rw [key_ll] at h; exact wpAny_eqBool_int h
      · rw [key_lr] at h; exact SeqAt.EqAt.int_str i t y u _ _ _ _ h
    · rcases keyIs_shape hv with ⟨j, u, rfl, rfl⟩ | ⟨y, u, rfl, rfl⟩
      · rw [key_rl] at h; exact SeqAt.EqAt.str_int x t j u _ _ _ _ h
      · rw [key_rr] at h; exact wpAny_eqBool_str h
  «strs» := fun k x t v h => by
    rcases keyIs_shape h with ⟨i, u, rfl, e⟩ | ⟨y, u, rfl, e⟩
    · exact nomatch e
    · injection e with e1 _
      subst e1
      cases v <;> rfl

end L2

namespace L2
open PySem PySem.Spec PyProof.Rows

/-- a value, without the heap -/
inductive V where
  | non | bl (b : Bool) | int (i : Int) | str (x : Str) | byt (b : Array UInt8) | flt (b : UInt64) | ref (a : Addr) | ty (n : String)
  deriving DecidableEq

def RelV : V → Value → Prop
  | .non, u => u = Value.none
  | .bl b, u => u = Value.bool b
  | .int i, u => ∃ t, u = Value.int i t
  | .str x, u => ∃ t, u = Value.str x t
  | .byt b, u => ∃ t, u = Value.bytes b t
  | .flt b, u => ∃ t, u = Value.float b t
  | .ref a, u => u = Value.ref a
  | .ty n, u => u = Value.type n

abbrev Vals : List V → List Value → Prop := Paired RelV
theorem Vals.length {xs : List V} {us : List Value} (r : Vals xs us) : xs.length = us.length := Paired.length r
theorem Vals.get : ∀ {xs : List V} {us : List Value} {i : Nat} {x : V}, Vals xs us → xs[i]? = some x → ∃ u, us[i]? = some u ∧ RelV x u
  | _, _, _, _, .nil, e => by simp at e
  | _, _, 0, _, .cons r _, e => by simp at e; subst e; exact ⟨_, rfl, r⟩
  | _, _, i + 1, x, .cons _ t, e => by
    obtain ⟨u, h1, h2⟩ := Vals.get (i := i) (x := x) t (by simpa using e)
    exact ⟨u, by simpa using h1, h2⟩
theorem Vals.append : ∀ {xs ys : List V} {us ws : List Value}, Vals xs us → Vals ys ws → Vals (xs ++ ys) (us ++ ws)
  | _, _, _, _, .nil, s => s
  | _, _, _, _, .cons r t, s => .cons r (Vals.append t s)

def RelO : Option V → Option Value → Prop
  | some v, some u => RelV v u
  | none, none => True
  | _, _ => False
def KV {κ : Type} : List (κ × V) → List (κ × Value) → Prop := Paired fun (p : κ × V) (q : κ × Value) => p.1 = q.1 ∧ RelV p.2 q.2

/-- a key of a dict (00_mix): an int or a text -/
def kV : Key → V
  | .inl i => .int i
  | .inr x => .str x

/-- what stands at a tracked address -/
inductive HO where
  /-- a list -/
  | lst (xs : List V)
  /-- a tuple (never changes) -/
  | tup (xs : List V)
  /-- a dict whose keys are ints and texts; one whose keys are tuples of ints and texts (the empty one is both) -/
  | dK (kvs : List (Key × V)) | dT (kvs : List (List Key × V))
  /-- a set of ints: its members, its size -/
  | set (S : Int → Bool) (n : Nat)
  /-- an instance of the class at C, its dict at dx, its attributes -/
  | ins (C dx : Addr) (fs : List (Str × V))
  /-- the dict of the instance at x -/
  | own (x : Addr)
  /-- the dict of an exception -/
  | xd (fs : List (Str × V))
  /-- a bound method, f of x -/
  | met (f x : Addr)
  /-- a range object lo, lo + 1, .. below hi -/
  | rng (lo hi : Int)
  /-- a thing that is known to the object (the script; a dict while a loop walks it): read, never written while it is so -/
  | frz (o : Obj) (u : HO)
  /-- a code object's table -/
  | tbl (ps : Array Value)
  /-- any other thing, by what is true of its one object (a def of one's own: SetO a S n := HO.ext fun h => ..) -/
  | ext (φ : Heap → Prop)

abbrev Hp := Addr → Option HO
def upd (H : Hp) (a : Addr) (o : HO) : Hp := fun b => if b = a then some o else H b
theorem upd_same {H : Hp} {a : Addr} {o : HO} : upd H a o a = some o := by unfold upd; rw [if_pos rfl]
theorem upd_ne {H : Hp} {a b : Addr} {o : HO} (h : b ≠ a) : upd H a o b = H b := by unfold upd; rw [if_neg h]
theorem ne_of_none {H : Hp} {a b : Addr} {o : HO} (h : H a = some o) (h' : H b = none) : a ≠ b := by
  intro e; subst e; rw [h] at h'; cases h'

section
variable (P : Program) (w : World)
def ObjOk (H : Hp) (h : Heap) (a : Addr) : HO → Prop
  | .lst xs => xs.length ≤ sizeLine ∧ ∃ (its : List Value) (n : Nat), Vals xs its ∧ h.get? a = some { cls := .type "list", data := .seq its.toArray n }
  | .tup xs => xs.length ≤ sizeLine ∧ ∃ its : List Value, Vals xs its ∧ IsTup h a its.toArray
  | .dK kvs => kvs.length ≤ sizeLine ∧ (a == sysModules) = false ∧ ∃ vs, KV kvs vs ∧ h.DictOf (mixKind P w) a vs
  | .dT kvs => kvs.length ≤ sizeLine ∧ (a == sysModules) = false ∧ ∃ xs : List (List Key × Addr × Value),
      Paired (fun (p : List Key × V) (q : List Key × Addr × Value) => p.1 = q.1 ∧ H q.2.1 = some (.tup (p.1.map kV)) ∧ RelV p.2 q.2.2) kvs xs ∧
      ∃ o es ep, h.get? a = some o ∧ o.ExactDict ∧ o.data = .dict es ep ∧ es.toList = xs.map (entryOfKey (tupleKind (mixKind P w))) ∧ (xs.map (·.1)).Nodup
  | .set S n => h.SetOf (intKind P w) a S n
  | .ins C dx fs => H dx = some (.own a) ∧ fs.length ≤ 1000 ∧ dx ≠ a ∧ h.get? a = some (PySem.W.instObj C dx) ∧
      ∃ mA, h.Ns1 dx mA ∧ (∀ f, RelO (fs.lookup f) (mA f)) ∧ PySem.Within mA (fs.map (·.1))
  | .own _ => ∃ o, h.get? a = some o
  | .xd fs => ∃ mA, h.Ns1 a mA ∧ ∀ f, RelO (fs.lookup f) (mA f)
  | .rng lo hi => ∃ t u v, h.get? a = some { cls := .type "range", data := .fields #[.int lo t, .int hi u, .int 1 v] }
  | .frz o u => h.get? a = some o ∧ ObjOk H h a u
  | .tbl ps => h.get? a = some { cls := .none, data := .fields ps }
  | .met f x => h.get? a = some (PySem.W.methodObj (.ref f) (.ref x))
  | .ext φ => φ h ∧ (∃ o, h.get? a = some o) ∧ ∀ h1 h2 : Heap, φ h1 → (∀ o, h1.get? a = some o → h2.get? a = some o) → φ h2
/-- the abstract heap is held -/
def HOk (H : Hp) (h : Heap) : Prop := ∀ a o, H a = some o → ObjOk P w H h a o
end

section
variable {P : Program} {w : World} {H H' : Hp} {h h' : Heap} {a : Addr} {o : HO}
theorem ObjOk.lt (x : ObjOk P w H h a o) : a < h.objs.size := by
  cases o with
  | lst xs => obtain ⟨_, _, _, _, e⟩ := x; exact Heap.lt_size e
  | tup xs => obtain ⟨_, _, _, p⟩ := x; exact p.lt
  | dK kvs => obtain ⟨_, _, _, _, o, _, _, e, _⟩ := x; exact Heap.lt_size e
  | dT kvs => obtain ⟨_, _, _, _, o, _, _, e, _⟩ := x; exact Heap.lt_size e
  | set S n => obtain ⟨o, _, _, _, e, _⟩ := x; exact Heap.lt_size e
  | ins C dx fs => obtain ⟨_, _, _, e, _⟩ := x; exact Heap.lt_size e
  | own y => obtain ⟨_, e⟩ := x; exact Heap.lt_size e
  | xd fs => obtain ⟨_, ⟨_, _, _, e, _⟩, _⟩ := x; exact Heap.lt_size e
  | rng lo hi => obtain ⟨_, _, _, e⟩ := x; exact Heap.lt_size e
  | frz ob u => obtain ⟨e, _⟩ := x; exact Heap.lt_size e
  | tbl ps => exact Heap.lt_size (show h.get? a = some _ from x)
  | met f y => exact Heap.lt_size (show h.get? a = some _ from x)
  | ext φ => obtain ⟨_, ⟨_, e⟩, _⟩ := x; exact Heap.lt_size e
theorem Paired.mapP {α β : Type} {F G : α → β → Prop} : ∀ {l₁ : List α} {l₂ : List β}, Paired F l₁ l₂ → (∀ a b, F a b → G a b) → Paired G l₁ l₂
  | _, _, .nil, _ => .nil
  | _, _, .cons r t, f => .cons (f _ _ r) (Paired.mapP t f)
/-- what an object's description leans on: its own object, its own dict, the tuples -/
theorem ObjOk.stay (x : ObjOk P w H h a o) (k : ∀ b u, (b = a ∨ H b = some (.own a)) → h.get? b = some u → h'.get? b = some u)
    (ho : ∀ b, H b = some (.own a) → H' b = some (.own a)) (ht : ∀ b xs, H b = some (.tup xs) → H' b = some (.tup xs)) : ObjOk P w H' h' a o := by
  induction o with
  | lst xs => obtain ⟨z, its, n, r, e⟩ := x; exact ⟨z, its, n, r, k _ _ (.inl rfl) e⟩
  | tup xs => obtain ⟨z, its, r, ob, e, c⟩ := x; exact ⟨z, its, r, ob, k _ _ (.inl rfl) e, c⟩
  | dK kvs => obtain ⟨z, y, vs, r, ob, es, ep, e, c⟩ := x; exact ⟨z, y, vs, r, ob, es, ep, k _ _ (.inl rfl) e, c⟩
  | dT kvs =>
    obtain ⟨z, y, xs, r, ob, es, ep, e, c⟩ := x
    exact ⟨z, y, xs, Paired.mapP r fun p q z => ⟨z.1, ht _ _ z.2.1, z.2.2⟩, ob, es, ep, k _ _ (.inl rfl) e, c⟩
  | set S n => obtain ⟨ob, es, ep, t, e, c⟩ := x; exact ⟨ob, es, ep, t, k _ _ (.inl rfl) e, c⟩
  | ins C dx fs =>
    obtain ⟨d, z, ne, e, mA, ⟨od, es, ep, e2, c⟩, r⟩ := x
    exact ⟨ho _ d, z, ne, k _ _ (.inl rfl) e, mA, ⟨od, es, ep, k _ _ (.inr d) e2, c⟩, r⟩
  | own y => obtain ⟨ob, e⟩ := x; exact ⟨ob, k _ _ (.inl rfl) e⟩
  | xd fs => obtain ⟨mA, ⟨od, es, ep, e, c⟩, r⟩ := x; exact ⟨mA, ⟨od, es, ep, k _ _ (.inl rfl) e, c⟩, r⟩
  | rng lo hi => obtain ⟨t, u, v, e⟩ := x; exact ⟨t, u, v, k _ _ (.inl rfl) e⟩
  | frz ob u ih => obtain ⟨e, q⟩ := x; exact ⟨k _ _ (.inl rfl) e, ih q⟩
  | tbl ps =>
    have e : h.get? a = some { cls := .none, data := .fields ps } := x
    show h'.get? a = some { cls := .none, data := .fields ps }
    exact k a _ (.inl rfl) e
  | met f y =>
    have e : h.get? a = some (PySem.W.methodObj (.ref f) (.ref y)) := x
    show h'.get? a = some (PySem.W.methodObj (.ref f) (.ref y))
    exact k a _ (.inl rfl) e
  | ext φ => obtain ⟨p, ⟨o, e⟩, st⟩ := x; exact ⟨st _ _ p fun o q => k _ _ (.inl rfl) q, ⟨o, k _ _ (.inl rfl) e⟩, st⟩
theorem HOk.lt (x : HOk P w H h) (e : H a = some o) : a < h.objs.size := (x a o e).lt
theorem HOk.fresh (x : HOk P w H h) (e : h.objs.size ≤ a) : H a = none := by
  cases q : H a with
  | none => rfl
  | some u => exact absurd (Nat.lt_of_lt_of_le (x.lt q) e) (Nat.lt_irrefl _)
/-- every object of the heap is kept -/
theorem HOk.kept (x : HOk P w H h) (k : ∀ b u, h.get? b = some u → h'.get? b = some u) : HOk P w H h' := fun a o e =>
  (x a o e).stay (fun b u _ q => k b u q) (fun _ q => q) fun _ _ q => q
/-- a new object is laid and tracked -/
theorem HOk.laid (x : HOk P w H h) (k : ∀ b u, h.get? b = some u → h'.get? b = some u) (hp : h.objs.size ≤ a) (new : ObjOk P w (upd H a o) h' a o) : HOk P w (upd H a o) h' := fun b u e => by
  have hn := x.fresh hp
  by_cases hb : b = a
  · subst hb; rw [upd_same] at e; cases e; exact new
  · rw [upd_ne hb] at e
    exact (x b u e).stay (fun c v _ q => k c v q) (fun c q => by rw [upd_ne (ne_of_none q hn)]; exact q) fun c xs q => by rw [upd_ne (ne_of_none q hn)]; exact q
end

/-- what may be read as u: it is u, or a known u -/
def Rd (H : Hp) (a : Addr) (u : HO) : Prop := H a = some u ∨ ∃ o, H a = some (.frz o u)
theorem Rd.ok {P : Program} {w : World} {H : Hp} {h : Heap} {a : Addr} {u : HO} (r : Rd H a u) (x : HOk P w H h) : ObjOk P w H h a u := by
  rcases r with r | ⟨o, r⟩
  · exact x a u r
  · obtain ⟨_, q⟩ := x a _ r
    exact q
/-- what may be written -/
def Mut : Option HO → Prop
  | some (.lst _) => True
  | some (.dK _) => True
  | some (.dT _) => True
  | some (.set _ _) => True
  | some (.ins _ _ _) => True
  | some (.ext _) => True
  | _ => False
section
variable {P : Program} {w : World} {H : Hp} {h h' : Heap} {x e : Addr} {o' : HO}
/-- the object at e is changed: x itself, or the dict of the instance x -/
theorem HOk.write (ok : HOk P w H h) (mu : Mut (H x)) (he : e = x ∨ H e = some (.own x)) (k : ∀ b u, b ≠ e → h.get? b = some u → h'.get? b = some u) (heo : ∃ u, h'.get? e = some u)
    (new : ObjOk P w (upd H x o') h' x o') : HOk P w (upd H x o') h' := fun b u q => by
  have nown : ∀ c y, H c = some (.own y) → c ≠ x := fun c y r z => by subst z; rw [r] at mu; exact mu
  have ntup : ∀ c xs, H c = some (.tup xs) → c ≠ x := fun c xs r z => by subst z; rw [r] at mu; exact mu
  by_cases hb : b = x
  · subst hb; rw [upd_same] at q; cases q; exact new
  · rw [upd_ne hb] at q
    by_cases hbe : b = e
    · have q' : H b = some (.own x) := by
        rcases he with z | z
        · exact absurd (hbe.trans z) hb
        · rw [hbe]; exact z
      rw [q] at q'; cases q'
      obtain ⟨v, hv⟩ := heo
      exact ⟨v, by rw [hbe]; exact hv⟩
    · refine (ok b u q).stay (fun c v hc r => k c v ?_ r) (fun c r => by rw [upd_ne (nown c b r)]; exact r) fun c xs r => by rw [upd_ne (ntup c xs r)]; exact r
      rcases hc with rfl | hc
      · exact hbe
      · rintro rfl
        rcases he with z | z
        · exact nown c b hc z
        · rw [hc] at z; cases z; exact hb rfl
end

/-! ### kept unless tracked; of the frames at fs (the callers') the slots may change (an exception that passes writes there); of the records at ex (iterators) nothing is said -/
structure Un (fs ex : List Addr) (H H' : Hp) (h h' : Heap) : Prop where
  keep : ∀ b o, h.get? b = some o → H b = none → b ∉ fs → b ∉ ex → h'.get? b = some o
  slot : ∀ b o, h.get? b = some o → H b = none → b ∈ fs → b ∉ ex → ∃ sl, h'.get? b = some { o with slots := sl }
  free : ∀ b o, h.get? b = some o → H b = none → b ∉ ex → H' b = none
  there : ∀ b o, h.get? b = some o → b ∉ ex → ∃ o', h'.get? b = some o'
  tups : ∀ b xs, H b = some (.tup xs) → H' b = some (.tup xs)
  frzs : ∀ b o u, H b = some (.frz o u) → H' b = some (.frz o u)
  tbls : ∀ b ps, H b = some (.tbl ps) → ∃ more, H' b = some (.tbl (ps ++ more))
section
variable {fs fs' ex ex' : List Addr} {H H1 H2 : Hp} {h h1 h2 h' : Heap} {a x e : Addr} {o : HO}
theorem Un.any (u : Un fs ex H H1 h h1) {b : Addr} {ob : Obj} (q : h.get? b = some ob) (n : H b = none) (hx : b ∉ ex) : ∃ sl, h1.get? b = some { ob with slots := sl } := by
  by_cases hb : b ∈ fs
  · exact u.slot b ob q n hb hx
  · exact ⟨ob.slots, u.keep b ob q n hb hx⟩
theorem Un.kept (k : ∀ b u, h.get? b = some u → h'.get? b = some u) : Un fs ex H H h h' :=
  ⟨fun b ob q _ _ _ => k b ob q, fun b ob q _ _ _ => ⟨ob.slots, k b ob q⟩, fun _ _ _ n _ => n, fun b ob q _ => ⟨ob, k b ob q⟩, fun _ _ q => q, fun _ _ _ q => q, fun _ ps q => ⟨#[], by rw [q]; simp⟩⟩
theorem Un.refl : Un fs ex H H h h := Un.kept fun _ _ q => q
theorem Un.laid (k : ∀ b u, h.get? b = some u → h'.get? b = some u) (hp : h.objs.size ≤ a) (hn : H a = none) : Un fs ex H (upd H a o) h h' where
  keep := fun b u q _ _ _ => k b u q
  slot := fun b u q _ _ _ => ⟨u.slots, k b u q⟩
  free := fun b u q n _ => by rw [upd_ne (Nat.ne_of_lt (Nat.lt_of_lt_of_le (Heap.lt_size q) hp))]; exact n
  there := fun b u q _ => ⟨u, k b u q⟩
  tups := fun b xs q => by rw [upd_ne (ne_of_none q hn)]; exact q
  frzs := fun b u xs q => by rw [upd_ne (ne_of_none q hn)]; exact q
  tbls := fun b ps q => ⟨#[], by rw [upd_ne (ne_of_none q hn), q]; simp⟩
theorem Un.write (mu : Mut (H x)) (he : e = x ∨ H e = some (.own x)) (k : ∀ b u, b ≠ e → h.get? b = some u → h'.get? b = some u) (heo : ∃ u, h'.get? e = some u) : Un fs ex H (upd H x o) h h' := by
  have hx : ∀ b, H b = none → b ≠ x := fun b n z => by subst z; rw [n] at mu; exact mu
  have hb : ∀ b, H b = none → b ≠ e := fun b n z => by
    subst z
    rcases he with r | r
    · exact hx b n r
    · rw [n] at r; cases r
  have hm : ∀ b u, H b = some u → ¬ Mut (some u) → b ≠ x := fun b u q nm z => by subst z; rw [q] at mu; exact nm mu
  refine ⟨fun b u q n _ _ => k b u (hb b n) q, fun b u q n _ _ => ⟨u.slots, k b u (hb b n) q⟩, fun b u q n _ => by rw [upd_ne (hx b n)]; exact n, fun b u q _ => ?_,
    fun b xs q => by rw [upd_ne (hm b _ q fun z => z)]; exact q, fun b u xs q => by rw [upd_ne (hm b _ q fun z => z)]; exact q, fun b ps q => ⟨#[], by rw [upd_ne (hm b _ q fun z => z), q]; simp⟩⟩
  by_cases hbe : b = e
  · subst hbe; exact heo
  · exact ⟨u, k b u hbe q⟩
end

/-! ### the heap without what is tracked -/
def trk (h : Heap) (H : Hp) : List Addr := (List.range h.objs.size).filter fun a => (H a).isSome
def hidT (h : Heap) (H : Hp) : Heap := PySem.W.hideAll h (trk h H)
theorem hidT_size (h : Heap) (H : Hp) : (hidT h H).objs.size = h.objs.size := PySem.W.hideAll_size _ _
theorem hidT_get {h : Heap} {H : Hp} {b : Addr} {o : Obj} (e : h.get? b = some o) (n : H b = none) : (hidT h H).get? b = some o :=
  PySem.W.hideAll_get _ e fun hm => by
    have q : (H b).isSome = true := (List.mem_filter.mp hm).2
    rw [n] at q; simp at q
theorem of_hidT {h : Heap} {H : Hp} {b : Addr} {o : Obj} (e : (hidT h H).get? b = some o) : h.get? b = some o ∧ H b = none := by
  have e' : h.get? b = some o := PySem.W.of_hideAll (trk h H) e
  refine ⟨e', ?_⟩
  cases q : H b with
  | none => rfl
  | some x =>
    have hm : b ∈ trk h H := List.mem_filter.mpr ⟨List.mem_range.mpr (Heap.lt_size e'), by simp [q]⟩
    have z : (hidT h H).get? b = none := PySem.W.hideAll_none (trk h H) hm
    rw [z] at e; cases e

/-! ### OpenK's ledger, filled with every new object but one -/
end L2

namespace L2
open PySem PySem.Spec PyProof.Rows

/-- the module's facts, over the base: the heap at the law's entry without what is tracked there -/
structure Mod (K : PySem.W.Frag) (mg : Str → Option Value) (base : Heap) : Prop where
  kin : K.In base
  glob : base.Ns mainGlobals mg
  blt : ∃ mb, base.Ns builtinsNs mb ∧ ∀ x : Str, x ≠ "__name__" → mb x = bootBuiltins x
  nolimit : base.NoLimit

/-- the context: a def's body (or a comprehension's block) running. base: fixed through the whole law; s₀, H₀: the entry; outer: the frames whose slots others may change (a def's callers); stack: all frames that run;
   ex: iterators that were made ahead of the entry and are walked here (a comprehension's); fn: the names whose cells were made at the entry (a def: all; a comprehension's block: its own); calm: not within an except suite; pn: pins that every state bears; xe: what is wanted of an exception that leaves the code -/
structure Cx where
  prog : Program
  w : World
  K : PySem.W.Frag
  mg : Str → Option Value
  base : Heap
  A : Around
  N : List Str
  s_0 : Shared
  H_0 : Hp
  env : Env
  outer : List Env
  stack : List Env
  ex : List Addr
  fn : Str → Bool
  calm : Bool
  pn : List (Addr × Obj)
  xe : Value → Shared → Prop
/-- the callers' frames -/
def frs (l : List Env) : List Addr := l.filterMap (·.frame)
abbrev Cx.fs (X : Cx) : List Addr := frs X.outer

def Vis (sc : Scope) (x : Str) : Prop := sc.names.lookup x = some .local ∨ sc.names.lookup x = some .cell ∨ sc.names.lookup x = some .free
def Loc (sc : Scope) (x : Str) : Prop := sc.names.lookup x = some .local ∨ sc.names.lookup x = some .cell
def Look (env : Env) (h : Heap) (m : Str → Option Value) (x : Str) (u : Value) : Prop :=
  (env.kindOf x = some .local ∧ m x = some u) ∨ ((env.kindOf x = some .cell ∨ env.kindOf x = some .free) ∧ ∃ c, env.cells.lookup x = some c ∧ h.IsCell c (some u))

structure Cx.Ok (X : Cx) : Prop where
  mod : Mod X.K X.mg X.base
  kind : X.env.scope.kind = .function
  glob : X.env.globals = mainGlobals
  blt : X.env.builtins = builtinsNs
  above : X.s_0.heap.objs.size ≤ X.env.locals
  inj : ∀ x y c, X.env.cells.lookup x = some c → X.env.cells.lookup y = some c → x = y
  has : ∀ x, (X.env.kindOf x = some .cell ∨ X.env.kindOf x = some .free) → ∃ c, X.env.cells.lookup x = some c
  cab : ∀ x c, X.fn x = true → X.env.cells.lookup x = some c → X.s_0.heap.objs.size ≤ c
  hd : X.calm = true → X.A.handled = none
  frames : X.A.frames = some X.stack
  stk : X.stack = X.outer ∨ (X.stack = X.env :: X.outer ∧ X.env.frame = some X.env.locals)
  exf : ∀ b ∈ X.ex, b ≠ X.env.locals ∧ ∀ x c, X.env.cells.lookup x = some c → c ≠ b
  bs : ∀ b o, X.base.get? b = some o → X.s_0.heap.get? b = some o ∧ X.H_0 b = none
  bsz : X.base.objs.size ≤ X.s_0.heap.objs.size
  noex : ∀ b o, X.base.get? b = some o → b ∉ X.ex
  exfs : ∀ b ∈ X.ex, b ∉ X.fs
  funs : X.s_0.heap.FunFrames X.base X.outer
  frf : ∀ b ∈ X.fs, X.H_0 b = none

structure Inv (X : Cx) (pins : List (Addr × Obj)) (σ : List (Option V)) (H : Hp) (s : Shared) : Prop where
  ok : X.Ok
  os : s.os = X.s_0.os
  bare : AllBare s.gens
  base : Un X.fs X.ex X.H_0 H X.s_0.heap s.heap
  loc : ∃ m, s.heap.Ns X.env.locals m ∧ ∀ (i : Nat) (x : Str) (v : V), X.N[i]? = some x → σ[i]? = some (some v) → Vis X.env.scope x → ∃ u, RelV v u ∧ Look X.env s.heap m x u
  cell : ∀ x c, X.env.cells.lookup x = some c → ∃ v, s.heap.IsCell c v
  free : H X.env.locals = none
  freeC : ∀ x c, X.env.cells.lookup x = some c → H c = none
  pin : ∀ p ∈ X.pn ++ pins, s.heap.get? p.1 = some p.2 ∧ H p.1 = none ∧ p.1 ≠ X.env.locals ∧ p.1 ∉ X.fs ∧ ∀ v, p.2.data ≠ .cell v
  hok : HOk X.prog X.w H s.heap
  len : σ.length = X.N.length

section
variable {X : Cx} {pins : List (Addr × Obj)} {σ : List (Option V)} {H H' : Hp} {s : Shared} {h' : Heap}

theorem Cx.Ok.nofr (ok : X.Ok) {b : Addr} {o : Obj} (e : X.base.get? b = some o) : b ∉ X.fs := fun hb => by
  have := (ok.funs.mem hb).1
  rw [e] at this; cases this
theorem Inv.bs (I : Inv X pins σ H s) : ∀ b o, X.base.get? b = some o → s.heap.get? b = some o ∧ H b = none := fun b o e =>
  ⟨I.base.keep b o (I.ok.bs b o e).1 (I.ok.bs b o e).2 (I.ok.nofr e) (I.ok.noex b o e), I.base.free b o (I.ok.bs b o e).1 (I.ok.bs b o e).2 (I.ok.noex b o e)⟩
theorem Inv.bk (I : Inv X pins σ H s) : ∀ b o, X.base.get? b = some o → s.heap.get? b = some o := fun b o e => (I.bs b o e).1
theorem Inv.mod (I : Inv X pins σ H s) : Mod X.K X.mg X.base := I.ok.mod
theorem Inv.kIn (I : Inv X pins σ H s) : X.K.In s.heap := I.ok.mod.kin.keeps I.bk
theorem Inv.lt (I : Inv X pins σ H s) : X.env.locals < s.heap.objs.size := let ⟨_, hn, _⟩ := I.loc; hn.lt
theorem Inv.sz (I : Inv X pins σ H s) : X.s_0.heap.objs.size ≤ s.heap.objs.size := Nat.le_trans I.ok.above (Nat.le_of_lt I.lt)
theorem Inv.nofs (I : Inv X pins σ H s) {a : Addr} (h : s.heap.objs.size ≤ a) : a ∉ X.fs := fun hb => by
  obtain ⟨_, o, ho, _⟩ := I.ok.funs.mem hb
  exact absurd (Nat.lt_of_lt_of_le (Heap.lt_size ho) (Nat.le_trans I.sz h)) (Nat.lt_irrefl _)
theorem Inv.cne (I : Inv X pins σ H s) : ∀ x c, X.env.cells.lookup x = some c → c ≠ X.env.locals := fun x c e z => by
  obtain ⟨v, o, ho, hd⟩ := I.cell x c e
  obtain ⟨m, ⟨o', es, ep, ho', hd', _⟩, _⟩ := I.loc
  rw [z, ho'] at ho; cases ho; rw [hd'] at hd; cases hd
theorem Inv.funs (I : Inv X pins σ H s) : s.heap.FunFrames X.base X.outer := by
  have all : ∀ (l : List Env), (∀ b ∈ frs l, b ∈ X.fs) → X.s_0.heap.FunFrames X.base l → s.heap.FunFrames X.base l := by
    intro l
    induction l with
    | nil => intro _ _; trivial
    | cons env r ih =>
      intro hs hl
      obtain ⟨hk, ⟨L, o, hf, hn, ho, hd⟩, hr⟩ := hl
      have hL : L ∈ X.fs := hs L (by unfold frs; rw [List.filterMap_cons, hf]; exact List.mem_cons_self)
      obtain ⟨sl, e⟩ := I.base.slot L o ho (I.ok.frf L hL) hL fun z => I.ok.exfs L z hL
      exact ⟨hk, ⟨L, _, hf, hn, e, hd⟩, ih (fun b hb => hs b (by unfold frs; rw [List.filterMap_cons, hf]; exact List.mem_cons_of_mem _ hb)) hr⟩
  exact all X.outer (fun _ hb => hb) I.ok.funs

/-- the frames that run, for a call -/
theorem Inv.stack (I : Inv X pins σ H s) : s.heap.FunFrames X.base X.stack := by
  rcases I.ok.stk with e | ⟨e, hf⟩
  · rw [e]; exact I.funs
  · rw [e]
    obtain ⟨m, hn, _⟩ := I.loc
    refine .cons (by rw [I.ok.kind]; decide) hf hn ?_ I.funs
    exact Heap.get?_none_of_le (Nat.le_trans I.ok.bsz I.ok.above)
theorem Inv.stkSub (I : Inv X pins σ H s) : ∀ b ∈ frs X.stack, b ∈ X.env.locals :: X.fs := fun b hb => by
  rcases I.ok.stk with e | ⟨e, hf⟩
  · rw [e] at hb; exact List.mem_cons_of_mem _ hb
  · rw [e] at hb
    unfold frs at hb
    rw [List.filterMap_cons, hf] at hb
    exact hb
theorem Inv.stkFree (I : Inv X pins σ H s) : ∀ b ∈ frs X.stack, H b = none := fun b hb => by
  rcases List.mem_cons.mp (I.stkSub b hb) with e | hb
  · rw [e]; exact I.free
  · obtain ⟨_, o, ho, _⟩ := I.ok.funs.mem hb
    exact I.base.free b o ho (I.ok.frf b hb) fun z => I.ok.exfs b z hb

/-- THE STEP: the untracked objects but the frame and the records at ch are kept (the callers' frames up to slots), the frame's map is kept, the new abstract heap is held -/
theorem Inv.step {g' : Array GenState} {t' : Nat} {d' : Drawn} {ch : List Addr} (I : Inv X pins σ H s)
    (hch : ∀ b ∈ ch, (b ∈ X.ex ∨ X.s_0.heap.objs.size ≤ b) ∧ b ≠ X.env.locals ∧ (∀ x c, X.env.cells.lookup x = some c → c ≠ b) ∧ ∀ p ∈ X.pn ++ pins, p.1 ≠ b)
    (keep : ∀ b o, b ≠ X.env.locals → b ∉ X.fs → b ∉ ch → s.heap.get? b = some o → H b = none → h'.get? b = some o)
    (slot : ∀ b o, b ≠ X.env.locals → b ∈ X.fs → b ∉ ch → s.heap.get? b = some o → H b = none → ∃ sl, h'.get? b = some { o with slots := sl }) (free : ∀ b o, b ∉ ch → s.heap.get? b = some o → H b = none → H' b = none)
    (there : ∀ b o, b ∉ ch → s.heap.get? b = some o → ∃ o', h'.get? b = some o')
    (tups : ∀ b xs, H b = some (.tup xs) → H' b = some (.tup xs)) (frzs : ∀ b o u, H b = some (.frz o u) → H' b = some (.frz o u)) (tbls : ∀ b ps, H b = some (.tbl ps) → ∃ more, H' b = some (.tbl (ps ++ more)))
    (ns : ∀ m, s.heap.Ns X.env.locals m → h'.Ns X.env.locals m) (hok : HOk X.prog X.w H' h') (hg : AllBare g') :
    Inv X pins σ H' { s with heap := h', gens := g', drawn := d', toks := t' } := by
  have neL : ∀ b o, X.s_0.heap.get? b = some o → b ≠ X.env.locals := fun b o e => Nat.ne_of_lt (Nat.lt_of_lt_of_le (Heap.lt_size e) I.ok.above)
  have neC : ∀ b o, X.s_0.heap.get? b = some o → b ∉ X.ex → b ∉ ch := fun b o e hx hb => by
    rcases (hch b hb).1 with z | z
    · exact hx z
    · exact absurd (Nat.lt_of_lt_of_le (Heap.lt_size e) z) (Nat.lt_irrefl _)
  have cellK : ∀ x c, X.env.cells.lookup x = some c → ∀ v, s.heap.IsCell c v → h'.IsCell c v := fun x c e v ⟨o, ho, hd⟩ => by
    have nch : c ∉ ch := fun z => (hch c z).2.2.1 x c e rfl
    by_cases hc : c ∈ X.fs
    · obtain ⟨sl, q⟩ := slot c o (I.cne x c e) hc nch ho (I.freeC x c e)
      exact ⟨_, q, hd⟩
    · exact ⟨o, keep c o (I.cne x c e) hc nch ho (I.freeC x c e), hd⟩
  refine ⟨I.ok, I.os, hg, ⟨fun b o e n hb hx => ?_, fun b o e n hb hx => ?_, fun b o e n hx => ?_, fun b o e hx => ?_, fun b xs e => tups b xs (I.base.tups b xs e), fun b o xs e => frzs b o xs (I.base.frzs b o xs e), fun b ps e => ?_⟩, ?_, fun x c e => ?_, ?_, fun x c e => ?_, fun p hp => ?_, hok, I.len⟩
  · exact keep b o (neL b o e) hb (neC b o e hx) (I.base.keep b o e n hb hx) (I.base.free b o e n hx)
  · obtain ⟨sl, e1⟩ := I.base.slot b o e n hb hx
    obtain ⟨sl', e2⟩ := slot b _ (neL b o e) hb (neC b o e hx) e1 (I.base.free b o e n hx)
    exact ⟨sl', e2⟩
  · obtain ⟨o', e1⟩ := I.base.there b o e hx
    exact free b o' (neC b o e hx) e1 (I.base.free b o e n hx)
  · obtain ⟨o', e1⟩ := I.base.there b o e hx
    exact there b o' (neC b o e hx) e1
  · obtain ⟨m1, e1⟩ := I.base.tbls b ps e
    obtain ⟨m2, e2⟩ := tbls b _ e1
    exact ⟨m1 ++ m2, by rw [e2, Array.append_assoc]⟩
  · obtain ⟨m, hn, hl⟩ := I.loc
    refine ⟨m, ns m hn, fun i x v e1 e2 e3 => ?_⟩
    obtain ⟨u, r, l⟩ := hl i x v e1 e2 e3
    refine ⟨u, r, ?_⟩
    rcases l with l | ⟨k, c, e, z⟩
    · exact .inl l
    · exact .inr ⟨k, c, e, cellK x c e _ z⟩
  · obtain ⟨v, z⟩ := I.cell x c e
    exact ⟨v, cellK x c e v z⟩
  · obtain ⟨m, ⟨o, _, _, ho, _⟩, _⟩ := I.loc
    exact free _ o (fun z => (hch _ z).2.1 rfl) ho I.free
  · obtain ⟨v, o, ho, hd⟩ := I.cell x c e
    exact free c o (fun z => (hch c z).2.2.1 x c e rfl) ho (I.freeC x c e)
  · obtain ⟨e, n, ne, nf, d⟩ := I.pin p hp
    have nch : p.1 ∉ ch := fun z => (hch p.1 z).2.2.2 p hp rfl
    exact ⟨keep p.1 p.2 ne nf nch e n, free p.1 p.2 nch e n, ne, nf, d⟩
/-- .. where the frame's own object is kept too -/
theorem Inv.un {t' : Nat} (I : Inv X pins σ H s) (u : Un X.fs [] H H' s.heap h') (hok : HOk X.prog X.w H' h') : Inv X pins σ H' { s with heap := h', toks := t' } := by
  obtain ⟨m, ⟨o, es, ep, ho, r⟩, _⟩ := id I.loc
  obtain ⟨sl, hL⟩ := u.any ho I.free (by simp)
  exact I.step (g' := s.gens) (d' := s.drawn) (ch := []) (fun _ z => nomatch z) (fun b o _ hb _ e n => u.keep b o e n hb (by simp)) (fun b o _ hb _ e n => u.slot b o e n hb (by simp)) (fun b o _ e n => u.free b o e n (by simp)) (fun b o _ e => u.there b o e (by simp)) u.tups u.frzs u.tbls (fun m' hm => by
    obtain ⟨o', es', ep', ho', r'⟩ := hm
    rw [ho] at ho'; cases ho'
    exact ⟨_, es', ep', hL, r'⟩) hok I.bare
/-- behind a call (or a comprehension's block): the slots of this frame may have changed too, the records at ch may have turned -/
theorem Inv.call {g' : Array GenState} {t' : Nat} {d' : Drawn} {ch : List Addr} (I : Inv X pins σ H s) (u : Un (frs X.stack) ch H H' s.heap h') (hok : HOk X.prog X.w H' h') (hg : AllBare g')
    (hch : ∀ b ∈ ch, (b ∈ X.ex ∨ X.s_0.heap.objs.size ≤ b) ∧ b ≠ X.env.locals ∧ (∀ x c, X.env.cells.lookup x = some c → c ≠ b) ∧ ∀ p ∈ X.pn ++ pins, p.1 ≠ b) :
    Inv X pins σ H' { s with heap := h', gens := g', drawn := d', toks := t' } := by
  obtain ⟨m, ⟨o, es, ep, ho, r⟩, _⟩ := id I.loc
  obtain ⟨sl, hL⟩ := u.any ho I.free fun z => (hch _ z).2.1 rfl
  exact I.step (ch := ch) hch (fun b o hL hb hc e n => u.keep b o e n (fun z => (List.mem_cons.mp (I.stkSub b z)).elim hL hb) hc) (fun b o _ _ hc e n => u.any e n hc) (fun b o hc e n => u.free b o e n hc) (fun b o hc e => u.there b o e hc) u.tups u.frzs u.tbls (fun m' hm => by
    obtain ⟨o', es', ep', ho', r'⟩ := hm
    rw [ho] at ho'; cases ho'
    exact ⟨_, es', ep', hL, r'⟩) hok hg
/-- an untracked record of ours (an iterator) has turned -/
theorem Inv.turned {t' : Nat} {it : Addr} (I : Inv X pins σ H s) (k : ∀ b o, b ≠ it → s.heap.get? b = some o → h'.get? b = some o) (hn : H it = none) (hL : it ≠ X.env.locals)
    (h1 : it ∈ X.ex ∨ X.s_0.heap.objs.size ≤ it) (h2 : ∀ x c, X.env.cells.lookup x = some c → c ≠ it) (h3 : ∀ p ∈ X.pn ++ pins, p.1 ≠ it) : Inv X pins σ H { s with heap := h', toks := t' } := by
  have nit : ∀ b u, H b = some u → b ≠ it := fun b u e z => by rw [z, hn] at e; cases e
  refine I.step (g' := s.gens) (d' := s.drawn) (ch := [it]) (fun b hb => ?_) (fun b o _ _ hc e _ => k b o (fun z => hc (by simp [z])) e) (fun b o _ _ hc e _ => ⟨o.slots, k b o (fun z => hc (by simp [z])) e⟩) (fun _ _ _ _ n => n)
    (fun b o hc e => ⟨o, k b o (fun z => hc (by simp [z])) e⟩) (fun _ _ e => e) (fun _ _ _ e => e) (fun b ps e => ⟨#[], by rw [e]; simp⟩) (fun m hm => ?_) (fun b u e => ?_) I.bare
  · have e : b = it := by simpa using hb
    subst e
    exact ⟨h1, hL, h2, h3⟩
  · obtain ⟨o, es, ep, ho, r⟩ := hm
    exact ⟨o, es, ep, k _ o (Ne.symm hL) ho, r⟩
  · refine (I.hok b u e).stay (fun c v hc q => k c v ?_ q) (fun _ q => q) fun _ _ q => q
    rcases hc with z | z
    · rw [z]; exact nit b u e
    · exact nit c _ z
theorem Inv.tok (I : Inv X pins σ H s) (t : Nat) : Inv X pins σ H { s with toks := t } := I.un (h' := s.heap) (t' := t) Un.refl I.hok
/-- all objects kept -/
theorem Inv.kept {t' : Nat} (I : Inv X pins σ H s) (k : ∀ b u, s.heap.get? b = some u → h'.get? b = some u) : Inv X pins σ H { s with heap := h', toks := t' } := I.un (Un.kept k) (I.hok.kept k)
/-- a new object laid and tracked -/
theorem Inv.laid {a : Addr} {o : HO} {t' : Nat} (I : Inv X pins σ H s) (k : ∀ b u, s.heap.get? b = some u → h'.get? b = some u) (hp : s.heap.objs.size ≤ a) (new : ObjOk X.prog X.w (upd H a o) h' a o) :
    Inv X pins σ (upd H a o) { s with heap := h', toks := t' } := I.un (Un.laid k hp (I.hok.fresh hp)) (I.hok.laid k hp new)
/-- an object written -/
theorem Inv.write {x e : Addr} {o : HO} {t' : Nat} (I : Inv X pins σ H s) (mu : Mut (H x)) (he : e = x ∨ H e = some (.own x)) (k : ∀ b u, b ≠ e → s.heap.get? b = some u → h'.get? b = some u) (heo : ∃ u, h'.get? e = some u)
    (new : ObjOk X.prog X.w (upd H x o) h' x o) : Inv X pins σ (upd H x o) { s with heap := h', toks := t' } := I.un (Un.write mu he k heo) (I.hok.write mu he k heo new)
theorem Inv.pins_of {pins' : List (Addr × Obj)} (I : Inv X pins σ H s) (h : ∀ p ∈ pins', s.heap.get? p.1 = some p.2 ∧ H p.1 = none ∧ p.1 ≠ X.env.locals ∧ p.1 ∉ X.fs ∧ ∀ v, p.2.data ≠ .cell v) : Inv X pins' σ H s :=
  ⟨I.ok, I.os, I.bare, I.base, I.loc, I.cell, I.free, I.freeC, fun p hp => (List.mem_append.mp hp).elim (fun z => I.pin p (List.mem_append_left _ z)) (h p), I.hok, I.len⟩

theorem nodup_ix {N : List Str} (hN : N.Nodup) {i j : Nat} {x : Str} (a : N[i]? = some x) (b : N[j]? = some x) : i = j := by
  obtain ⟨h1, e1⟩ := List.getElem?_eq_some_iff.mp a
  obtain ⟨h2, e2⟩ := List.getElem?_eq_some_iff.mp b
  exact (List.getElem_inj hN).mp (e1.trans e2.symm)

/-- a name is stored; what changed -/
theorem store_ok2 {M : Model} {A : Around} {E : Value → Shared → Prop} {i : Nat} {x : Str} {v : V} {u : Value} {Q : Unit → Shared → Prop} (I : Inv X pins σ H s) (hN : X.N.Nodup) (hi : X.N[i]? = some x) (hx : Loc X.env.scope x) (r : RelV v u)
    (h : ∀ s', Inv X pins (σ.set i (some v)) H s' → (∃ a, Heap.SameBut a s.heap s'.heap ∧ (a = X.env.locals ∨ X.env.cells.lookup x = some a)) → Q () s') (hf : X.fn x = true ∨ X.env.scope.names.lookup x = some .local := by first | exact .inl rfl | exact .inr rfl | assumption) : wpAny M A (storeName X.env x u) Q E s := by
  obtain ⟨m, hn, hl⟩ := id I.loc
  have hcls : (X.env.scope.kind == .class || (X.env.scope.kind == .module && X.env.locals != X.env.globals)) = false := by rw [I.ok.kind]; rfl
  have hiσ : i < σ.length := by rw [I.len]; exact (List.getElem?_eq_some_iff.mp hi).1
  have cne := I.cne
  have tracked : ∀ {a : Addr} {h' : Heap}, (∃ o, s.heap.get? a = some o ∧ H a = none) → Heap.SameBut a s.heap h' → HOk X.prog X.w H h' := fun {a h'} ha hs b ob e => by
    obtain ⟨_, _, hfree⟩ := ha
    refine (I.hok b ob e).stay (fun c w' hc q => (hs.2 c ?_).trans q) (fun _ q => q) fun _ _ q => q
    rintro rfl
    rcases hc with rfl | hc
    · rw [hfree] at e; cases e
    · rw [hfree] at hc; cases hc
  rcases hx with hk | hk
  · refine wpAny_storeName_local hk hn (fun h' hn' hs => ?_) hcls
    obtain ⟨oL, _, _, hoL, _⟩ := id hn
    refine h _ ⟨I.ok, I.os, I.bare, ⟨fun b o e n hb hx => ?_, fun b o e n hb hx => ?_, I.base.free, fun b o e hx => ?_, I.base.tups, I.base.frzs, I.base.tbls⟩, ⟨_, hn', fun j y v' e1 e2 e3 => ?_⟩, fun y c e => ?_, I.free, I.freeC, fun p hp => ?_, tracked ⟨oL, hoL, I.free⟩ hs, by simpa using I.len⟩ ⟨_, hs, .inl rfl⟩
    · exact (hs.2 b (Nat.ne_of_lt (Nat.lt_of_lt_of_le (Heap.lt_size e) I.ok.above))).trans (I.base.keep b o e n hb hx)
    · obtain ⟨sl, e1⟩ := I.base.slot b o e n hb hx
      exact ⟨sl, (hs.2 b (Nat.ne_of_lt (Nat.lt_of_lt_of_le (Heap.lt_size e) I.ok.above))).trans e1⟩
    · obtain ⟨o', e1⟩ := I.base.there b o e hx
      exact ⟨o', (hs.2 b (Nat.ne_of_lt (Nat.lt_of_lt_of_le (Heap.lt_size e) I.ok.above))).trans e1⟩
    · by_cases hj : j = i
      · subst hj
        rw [hi] at e1; cases e1
        rw [List.getElem?_set_self hiσ] at e2
        cases e2
        exact ⟨u, r, .inl ⟨hk, by simp⟩⟩
      · rw [List.getElem?_set_ne (Ne.symm hj)] at e2
        obtain ⟨u', r', q⟩ := hl j y v' e1 e2 e3
        refine ⟨u', r', ?_⟩
        rcases q with ⟨k, e⟩ | ⟨k, c, e, z⟩
        · refine .inl ⟨k, ?_⟩
          have : y ≠ x := fun e => hj (nodup_ix hN e1 (e ▸ hi))
          simp [this, e]
        · exact .inr ⟨k, c, e, z.sameBut hs (cne y c e)⟩
    · obtain ⟨w', z⟩ := I.cell y c e
      exact ⟨w', z.sameBut hs (cne y c e)⟩
    · obtain ⟨e, n, ne, nf, d⟩ := I.pin p hp
      exact ⟨(hs.2 p.1 ne).trans e, n, ne, nf, d⟩
  · have hfn : X.fn x = true := by
      rcases hf with z | z
      · exact z
      · rw [z] at hk; cases hk
    obtain ⟨c, hc⟩ := I.ok.has x (.inl hk)
    obtain ⟨w', z⟩ := I.cell x c hc
    refine wpAny_storeName_cell I.ok.kind hk hc z (fun h' hc' hs => ?_)
    obtain ⟨oc, hoc, hocd⟩ := id z
    refine h { s with heap := h' } ⟨I.ok, I.os, I.bare, ⟨fun b o e n hb hx => ?_, fun b o e n hb hx => ?_, I.base.free, fun b o e hx => ?_, I.base.tups, I.base.frzs, I.base.tbls⟩, ⟨m, hn.sameBut hs (Ne.symm (cne x c hc)), fun j y v' e1 e2 e3 => ?_⟩, fun y c' e => ?_, I.free, I.freeC, fun p hp => ?_, tracked ⟨oc, hoc, I.freeC x c hc⟩ hs, by simpa using I.len⟩ ⟨c, hs, .inr hc⟩
    · exact (hs.2 b (Nat.ne_of_lt (Nat.lt_of_lt_of_le (Heap.lt_size e) (I.ok.cab x c hfn hc)))).trans (I.base.keep b o e n hb hx)
    · obtain ⟨sl, e1⟩ := I.base.slot b o e n hb hx
      exact ⟨sl, (hs.2 b (Nat.ne_of_lt (Nat.lt_of_lt_of_le (Heap.lt_size e) (I.ok.cab x c hfn hc)))).trans e1⟩
    · obtain ⟨o', e1⟩ := I.base.there b o e hx
      exact ⟨o', (hs.2 b (Nat.ne_of_lt (Nat.lt_of_lt_of_le (Heap.lt_size e) (I.ok.cab x c hfn hc)))).trans e1⟩
    · by_cases hj : j = i
      · subst hj
        rw [hi] at e1; cases e1
        rw [List.getElem?_set_self hiσ] at e2
        cases e2
        exact ⟨u, r, .inr ⟨.inl hk, c, hc, hc'⟩⟩
      · rw [List.getElem?_set_ne (Ne.symm hj)] at e2
        obtain ⟨u', r', q⟩ := hl j y v' e1 e2 e3
        refine ⟨u', r', ?_⟩
        rcases q with q | ⟨k, c', e, z'⟩
        · exact .inl q
        · refine .inr ⟨k, c', e, z'.sameBut hs ?_⟩
          rintro rfl
          exact hj (nodup_ix hN e1 (I.ok.inj _ _ _ e hc ▸ hi))
    · by_cases hcc : c' = c
      · subst hcc; exact ⟨_, hc'⟩
      · obtain ⟨w2, z2⟩ := I.cell y c' e
        exact ⟨w2, z2.sameBut hs hcc⟩
    · obtain ⟨e, n, ne, nf, d⟩ := I.pin p hp
      refine ⟨(hs.2 p.1 ?_).trans e, n, ne, nf, d⟩
      intro q
      rw [q, hoc] at e
      have q' : oc = p.2 := Option.some.inj e
      exact d w' (by rw [← q']; exact hocd)
theorem store_ok {M : Model} {A : Around} {E : Value → Shared → Prop} {i : Nat} {x : Str} {v : V} {u : Value} {Q : Unit → Shared → Prop} (I : Inv X pins σ H s) (hN : X.N.Nodup) (hi : X.N[i]? = some x) (hx : Loc X.env.scope x) (r : RelV v u)
    (h : ∀ s', Inv X pins (σ.set i (some v)) H s' → Q () s') (hf : X.fn x = true ∨ X.env.scope.names.lookup x = some .local := by first | exact .inl rfl | exact .inr rfl | assumption) : wpAny M A (storeName X.env x u) Q E s :=
  store_ok2 I hN hi hx r (fun s' I' _ => h s' I') hf
end

/-! ### the judgements -/
/-- an exception: its class, its own dict's address (where it has one), the abstract heap behind it -/
abbrev XK := Value → Option Addr → Hp → Prop
abbrev St := List (Option V)
abbrev VK := V → Hp → Prop
/-- an expression's reading; a test's; an argument list's -/
abbrev TE := St → Hp → VK → Prop
abbrev TT := St → Hp → (Bool → Hp → Prop) → Prop
abbrev TA := St → Hp → (List V → Hp → Prop) → Prop
/-- what is wanted behind a statement -/
structure Ends where
  nx : St → Hp → Prop
  rt : VK
  bk : St → Hp → Prop := fun _ _ => False
  ct : St → Hp → Prop := fun _ _ => False
abbrev TS := Ends → St → Hp → Prop

def EP (X : Cx) (pins : List (Addr × Obj)) (σ : St) (Q : VK) (u : Value) (s' : Shared) : Prop := ∃ v H', Inv X pins σ H' s' ∧ RelV v u ∧ Q v H'
def TP (X : Cx) (pins : List (Addr × Obj)) (σ : St) (Q : Bool → Hp → Prop) (b : Bool) (s' : Shared) : Prop := ∃ H', Inv X pins σ H' s' ∧ Q b H'
def AP (X : Cx) (pins : List (Addr × Obj)) (σ : St) (Q : List V → Hp → Prop) (us : List Value) (s' : Shared) : Prop := ∃ vs H', Inv X pins σ H' s' ∧ Vals vs us ∧ Q vs H'
def SP (X : Cx) (pins : List (Addr × Obj)) (D : Ends) (f : Flow) (s' : Shared) : Prop :=
  match f with
  | .next => ∃ σ' H', Inv X pins σ' H' s' ∧ D.nx σ' H'
  | .brk => ∃ σ' H', Inv X pins σ' H' s' ∧ D.bk σ' H'
  | .cont => ∃ σ' H', Inv X pins σ' H' s' ∧ D.ct σ' H'
  | .ret u => ∃ v σ' H', Inv X pins σ' H' s' ∧ RelV v u ∧ D.rt v H'

def PE (X : Cx) (e : Expr) (t : TE) : Prop :=
  ∀ (pins : List (Addr × Obj)) (s : Shared) (σ : St) (H : Hp) (Q : VK), Inv X pins σ H s → t σ H Q → wpAny (model X.prog X.w) X.A (eval e X.env) (EP X pins σ Q) X.xe s
def PT (X : Cx) (e : Expr) (t : TT) : Prop :=
  ∀ (pins : List (Addr × Obj)) (s : Shared) (σ : St) (H : Hp) (Q : Bool → Hp → Prop), Inv X pins σ H s → t σ H Q → wpAny (model X.prog X.w) X.A (isTrue e X.env (eval e X.env)) (TP X pins σ Q) X.xe s
/-- a test whatever its 'whole' is (and, or) -/
def PW (X : Cx) (e : Expr) (t : TT) : Prop :=
  ∀ (whole : Sem Value) (pins : List (Addr × Obj)) (s : Shared) (σ : St) (H : Hp) (Q : Bool → Hp → Prop), Inv X pins σ H s → t σ H Q → wpAny (model X.prog X.w) X.A (isTrue e X.env whole) (TP X pins σ Q) X.xe s
theorem PW.pt {X : Cx} {e : Expr} {t : TT} (h : PW X e t) : PT X e t := h _
/-- an argument list (no star), from the left -/
def PA (X : Cx) (es : List Expr) (t : TA) : Prop :=
  ∀ (pos : Pos) (pins : List (Addr × Obj)) (s : Shared) (σ : St) (H : Hp) (Q : List V → Hp → Prop), Inv X pins σ H s → t σ H Q → wpAny (model X.prog X.w) X.A (spliced (backTo pos (starEach es X.env))) (AP X pins σ Q) X.xe s
def PS (X : Cx) (st : Stmt) (t : TS) : Prop :=
  ∀ (pins : List (Addr × Obj)) (s : Shared) (σ : St) (H : Hp) (D : Ends), Inv X pins σ H s → t D σ H → wpAny (model X.prog X.w) X.A (exec st X.env) (SP X pins D) X.xe s
def PSs (X : Cx) (st : List Stmt) (t : TS) : Prop :=
  ∀ (pins : List (Addr × Obj)) (s : Shared) (σ : St) (H : Hp) (D : Ends), Inv X pins σ H s → t D σ H → wpAny (model X.prog X.w) X.A (execs st X.env) (SP X pins D) X.xe s
/-- weaken the end -/
theorem thn {α : Type} {t : Sem α} {Q Q' : α → Shared → Prop} {M : Model} {A : Around} {E : Value → Shared → Prop} {s : Shared} (h : wpAny M A t Q E s) (hQ : ∀ a s, Q a s → Q' a s) : wpAny M A t Q' E s := wpAny_mono h hQ fun _ _ x => x
end L2

namespace L2
open PySem PySem.Spec PyProof.Rows
section
variable {X : Cx}


/-! ### names and constants -/
def tVar (i : Nat) : TE := fun σ H Q => ∃ v, σ[i]? = some (some v) ∧ Q v H
def tC (v : V) : TE := fun _ H Q => Q v H
theorem pe_var {i : Nat} {x : Str} {pos : Pos} (hN : X.N[i]? = some x) (hv : Vis X.env.scope x) (hd : (x == ("__debug__" : Str)) = false := by decide) (hcd : (x == ("__classdict__" : Str)) = false := by decide) : PE X (.Name x pos) (tVar i) := by
  intro pins s σ H Q I h
  obtain ⟨v, e, h⟩ := h
  obtain ⟨m, hn, hl⟩ := I.loc
  obtain ⟨u, r, l⟩ := hl i x v hN e hv
  have fin : EP X pins σ Q u s := ⟨v, H, I, r, h⟩
  rcases l with ⟨hk, hm⟩ | ⟨hk, c, hc, hcell⟩
  · exact wpAny_Name (wpAny_loadName_local I.ok.kind hk hn hm fin) hd
  · rcases hk with hk | hk
    · exact wpAny_Name (wpAny_loadName_cell I.ok.kind hk hc hcell fin) hd
    · exact wpAny_Name (wpAny_loadName_free I.ok.kind hk hc hcell fin hcd) hd
theorem pe_int {i j pos} : PE X (.Constant (.int i) j pos) (tC (.int i)) := fun _ _ _ H _ I h => wpAny_Constant_int ⟨.int i, H, I.tok _, ⟨_, rfl⟩, h⟩
theorem pe_non {j pos} : PE X (.Constant .none j pos) (tC .non) := fun _ _ _ H _ I h => Constant_none ⟨.non, H, I, rfl, h⟩

/-- a global name of the def -/
def Gl (X : Cx) (x : Str) : Prop := X.env.kindOf x = some .globalImplicit
theorem ld_glob {E : Value → Shared → Prop} {pins : List (Addr × Obj)} {s : Shared} {σ : St} {H : Hp} {x : Str} {u : Value} {pos : Pos} {Q : Value → Shared → Prop} (I : Inv X pins σ H s) (hg : Gl X x) (hm : X.mg x = some u) (h : Q u s)
    (hd : (x == ("__debug__" : Str)) = false := by decide) : wpAny (model X.prog X.w) X.A (eval (.Name x pos) X.env) Q E s :=
  Calls.Name_function_global I.ok.kind hg (Calls.loadGlobal_global (by rw [I.ok.glob]; exact I.mod.glob.keeps I.bk) hm h) hd
theorem ld_blt {E : Value → Shared → Prop} {pins : List (Addr × Obj)} {s : Shared} {σ : St} {H : Hp} {x : Str} {u : Value} {pos : Pos} {Q : Value → Shared → Prop} (I : Inv X pins σ H s) (hg : Gl X x) (hm : X.mg x = none) (hv : bootBuiltins x = some u) (h : Q u s)
    (hn : x ≠ "__name__" := by decide) (hd : (x == ("__debug__" : Str)) = false := by decide) : wpAny (model X.prog X.w) X.A (eval (.Name x pos) X.env) Q E s := by
  obtain ⟨mb, h1, h2⟩ := I.mod.blt
  exact Calls.Name_function_global I.ok.kind hg (Calls.loadGlobal_builtin (by rw [I.ok.glob]; exact I.mod.glob.keeps I.bk) hm (by rw [I.ok.blt]; exact h1.keeps I.bk) ((h2 x hn).trans hv) h) hd
/-- a module's constant, a class, a function, as a value -/
theorem pe_glob {x : Str} {v : V} {u : Value} {pos : Pos} (hg : Gl X x) (hm : X.mg x = some u) (r : RelV v u) (hd : (x == ("__debug__" : Str)) = false := by decide) : PE X (.Name x pos) (tC v) :=
  fun _ _ _ H _ I h => ld_glob I hg hm ⟨v, H, I, r, h⟩ hd

/-! ### arithmetic -/
variable {a b : Expr} {ta tb : TE} {pos : Pos}

/-! ### comparisons -/
/-- a comparison as a value, as a test -/
def tB (t : TE) : TT := fun σ H Q => t σ H fun x H1 => ∃ c, x = .bl c ∧ Q c H1
/-- an expression whose value is a bool, as a test -/
theorem pt_val {e : Expr} {t : TE} (h : PE X e t) (he : ∀ whole, isTrue e X.env whole = (do let v ← whole; standAt e.pos; holding [v] (truthy v)) := by intro _; rfl) : PT X e (tB t) := by
  intro pins s σ H Q I hw
  refine isTrue_plain (thn (h pins s σ H _ I hw) fun v s1 ⟨x, H1, I1, r1, q1⟩ => ?_) (he _)
  obtain ⟨d, rfl, q⟩ := q1
  cases r1
  exact wpAny_truthy_bool ⟨H1, I1, q⟩

/-! ### and, or, not -/
variable {tA tB' : TT} {rest : List Expr}
def tAnd (t u : TT) : TT := fun σ H Q => t σ H fun c H1 => if c = true then u σ H1 Q else Q false H1
def tOr (t u : TT) : TT := fun σ H Q => t σ H fun c H1 => if c = true then Q true H1 else u σ H1 Q
def tNot (t : TT) : TT := fun σ H Q => t σ H fun c H1 => Q (!c) H1
theorem pw_or1 (ha : PT X a tA) : PW X (.BoolOp .Or [a] pos) tA := by
  intro wh pins s σ H Q I h
  refine isTrue_or (thn (ha pins s σ H Q I h) fun c s1 e => ?_)
  cases c with
  | false => exact isTrue_or_nil e
  | true => exact e
theorem pw_or (ha : PT X a tA) (hb : PW X (.BoolOp .Or (b :: rest) pos) tB') : PW X (.BoolOp .Or (a :: b :: rest) pos) (tOr tA tB') := by
  intro wh pins s σ H Q I h
  refine isTrue_or (thn (ha pins s σ H _ I h) fun c s1 ⟨H1, I1, q1⟩ => ?_)
  cases c with
  | true => exact ⟨H1, I1, q1⟩
  | false => exact hb wh pins s1 σ H1 Q I1 q1
/-- .. as values (bools) -/
def tAndV (ta tb : TE) : TE := fun σ H Q => ta σ H fun x H1 => ∃ c, x = .bl c ∧ if c = true then tb σ H1 Q else Q (.bl false) H1
def tOrV (ta tb : TE) : TE := fun σ H Q => ta σ H fun x H1 => ∃ c, x = .bl c ∧ if c = true then Q (.bl true) H1 else tb σ H1 Q
def tNotV (ta : TE) : TE := fun σ H Q => ta σ H fun x H1 => ∃ c, x = .bl c ∧ Q (.bl (!c)) H1
/-- a if t else b -/
def tIf (t : TT) (ta tb : TE) : TE := fun σ H Q => t σ H fun c H1 => if c = true then ta σ H1 Q else tb σ H1 Q
theorem pe_ifExp {c : Expr} (hc : PT X c tA) (ha : PE X a ta) (hb : PE X b tb) : PE X (.IfExp c a b pos) (tIf tA ta tb) := by
  intro pins s σ H Q I h
  refine wpAny_IfExp (thn (hc pins s σ H _ I h) fun d s1 ⟨H1, I1, q1⟩ => ?_)
  cases d with
  | true => exact ha pins s1 σ H1 Q I1 q1
  | false => exact hb pins s1 σ H1 Q I1 q1
end
end L2

namespace L2
open PySem PySem.Spec PyProof.Rows

/-! ### a list, a tuple that is read: tracked, frozen, or an object of the module -/
def SqL (K : PySem.W.Frag) (H : Hp) (a : Addr) (xs : List V) : Prop :=
  Rd H a (.lst xs) ∨
    ∃ (o : Obj) (its : Array Value) (n : Nat), K.lookup a = some o ∧ o.cls = .type "list" ∧ o.dict = none ∧ o.data = .seq its n ∧ its.size ≤ sizeLine ∧ Vals xs its.toList
def SqT (K : PySem.W.Frag) (H : Hp) (a : Addr) (xs : List V) : Prop :=
  Rd H a (.tup xs) ∨
    ∃ (o : Obj) (its : Array Value) (n : Nat), K.lookup a = some o ∧ o.cls = .type "tuple" ∧ o.data = .seq its n ∧ its.size ≤ sizeLine ∧ Vals xs its.toList
def absV : Value → Option V
  | .none => some .non
  | .bool b => some (.bl b)
  | .int i _ => some (.int i)
  | .str x _ => some (.str x)
  | .bytes b _ => some (.byt b)
  | .float b _ => some (.flt b)
  | .ref a => some (.ref a)
  | .type n => some (.ty n)
  | _ => none
theorem RelV.abs {x : V} {u : Value} (r : RelV x u) : absV u = some x := by
  cases x with
  | non => cases r; rfl
  | bl _ => cases r; rfl
  | int _ => obtain ⟨t, rfl⟩ := r; rfl
  | str _ => obtain ⟨t, rfl⟩ := r; rfl
  | byt _ => obtain ⟨t, rfl⟩ := r; rfl
  | flt _ => obtain ⟨t, rfl⟩ := r; rfl
  | ref _ => cases r; rfl
  | ty _ => cases r; rfl
theorem RelV.inj {x y : V} {u : Value} (r : RelV x u) (q : RelV y u) : x = y := Option.some.inj (r.abs.symm.trans q.abs)
theorem Vals.inj : ∀ {xs ys : List V} {us : List Value}, Vals xs us → Vals ys us → xs = ys
  | _, _, _, .nil, .nil => rfl
  | _, _, _, .cons r t, .cons r' t' => by rw [r.inj r', Vals.inj t t']
section
variable {X : Cx} {pins : List (Addr × Obj)} {σ : St} {H : Hp} {s : Shared} {a : Addr} {xs ys : List V}
theorem SqL.of {K : PySem.W.Frag} (h : H a = some (.lst xs)) : SqL K H a xs := .inl (.inl h)
theorem SqT.of {K : PySem.W.Frag} (h : H a = some (.tup xs)) : SqT K H a xs := .inl (.inl h)
theorem Inv.list (I : Inv X pins σ H s) (h : SqL X.K H a xs) : ∃ its : List Value, Vals xs its ∧ PlainL s.heap a its.toArray ∧ xs.length ≤ sizeLine := by
  rcases h with h | ⟨o, its, n, hk, hc, hd, hs, hz, r⟩
  · obtain ⟨z, its, n, r, e⟩ := h.ok I.hok
    exact ⟨its, r, ⟨_, n, e, rfl, rfl, rfl⟩, z⟩
  · refine ⟨its.toList, r, ⟨o, n, I.kIn a o hk, hc, hd, by simpa using hs⟩, ?_⟩
    have e := r.length
    simp only [Array.length_toList] at e
    omega
theorem Inv.tuple (I : Inv X pins σ H s) (h : SqT X.K H a xs) : ∃ its : List Value, Vals xs its ∧ IsTup s.heap a its.toArray ∧ xs.length ≤ sizeLine := by
  rcases h with h | ⟨o, its, n, hk, hc, hs, hz, r⟩
  · obtain ⟨z, its, r, p⟩ := h.ok I.hok
    exact ⟨its, r, p, z⟩
  · refine ⟨its.toList, r, ⟨o, I.kIn a o hk, hc, n, by simpa using hs⟩, ?_⟩
    have e := r.length
    simp only [Array.length_toList] at e
    omega
theorem Inv.list_inj (I : Inv X pins σ H s) (h : SqL X.K H a xs) (h' : SqL X.K H a ys) : xs = ys := by
  obtain ⟨its, r, ⟨o, n, e, _, _, d⟩, _⟩ := I.list h
  obtain ⟨its', r', ⟨o', n', e', _, _, d'⟩, _⟩ := I.list h'
  rw [e] at e'; cases e'
  rw [d] at d'
  injection d' with d1 _
  have : its = its' := by simpa using congrArg Array.toList d1
  subst this
  exact r.inj r'
end

/-! ### another wish about exceptions -/
abbrev Cx.wish (X : Cx) (E : Value → Shared → Prop) : Cx := { X with xe := E }
/-- no exception leaves -/
abbrev Cx.nox (X : Cx) : Cx := X.wish fun _ _ => False
theorem Cx.Ok.wish {X : Cx} (ok : X.Ok) (E : Value → Shared → Prop) : (X.wish E).Ok :=
  ⟨ok.mod, ok.kind, ok.glob, ok.blt, ok.above, ok.inj, ok.has, ok.cab, ok.hd, ok.frames, ok.stk, ok.exf, ok.bs, ok.bsz, ok.noex, ok.exfs, ok.funs, ok.frf⟩
theorem Cx.Ok.unwish {X : Cx} {E : Value → Shared → Prop} (ok : (X.wish E).Ok) : X.Ok :=
  ⟨ok.mod, ok.kind, ok.glob, ok.blt, ok.above, ok.inj, ok.has, ok.cab, ok.hd, ok.frames, ok.stk, ok.exf, ok.bs, ok.bsz, ok.noex, ok.exfs, ok.funs, ok.frf⟩
section
variable {X : Cx} {pins : List (Addr × Obj)} {σ : St} {H : Hp} {s : Shared} {E : Value → Shared → Prop}
theorem Inv.wish (I : Inv X pins σ H s) (E : Value → Shared → Prop) : Inv (X.wish E) pins σ H s := ⟨I.ok.wish E, I.os, I.bare, I.base, I.loc, I.cell, I.free, I.freeC, I.pin, I.hok, I.len⟩
theorem Inv.unwish (I : Inv (X.wish E) pins σ H s) : Inv X pins σ H s := ⟨I.ok.unwish, I.os, I.bare, I.base, I.loc, I.cell, I.free, I.freeC, I.pin, I.hok, I.len⟩
theorem SP.unwish {D : Ends} {f : Flow} {s' : Shared} (h : SP (X.wish E) pins D f s') : SP X pins D f s' := by
  cases f with
  | next => obtain ⟨σ', H', I, q⟩ := h; exact ⟨σ', H', I.unwish, q⟩
  | brk => obtain ⟨σ', H', I, q⟩ := h; exact ⟨σ', H', I.unwish, q⟩
  | cont => obtain ⟨σ', H', I, q⟩ := h; exact ⟨σ', H', I.unwish, q⟩
  | ret u => obtain ⟨v, σ', H', I, r, q⟩ := h; exact ⟨v, σ', H', I.unwish, r, q⟩
theorem PSs.nox {st : List Stmt} {t : TS} (h : PSs X.nox st t) : PSs X st t := fun pins s σ H D I hw =>
  wpAny_mono (h pins s σ H D (I.wish _) hw) (fun _ _ q => q.unwish) fun _ _ z => False.elim z
end

/-! ### blocks and small statements -/
section
variable {X : Cx} {st : Stmt} {rest : List Stmt} {t u : TS} {e : Expr} {te : TE} {pos : Pos}
def tNext : TS := fun D σ H => D.nx σ H
def tSeq (t u : TS) : TS := fun D σ H => t { D with nx := u D } σ H
theorem pss_nil : PSs X [] tNext := fun _ _ σ H _ I h => wpAny_execs_nil ⟨σ, H, I, h⟩
theorem pss_cons (h1 : PS X st t) (h2 : PSs X rest u) : PSs X (st :: rest) (tSeq t u) := by
  intro pins s σ H D I h
  refine wpAny_execs_cons (thn (h1 pins s σ H { D with nx := u D } I h) fun f s1 q => ?_)
  cases f with
  | next =>
    obtain ⟨σ', H', I', q⟩ := q
    exact h2 pins s1 σ' H' D I' q
  | ret v => exact q
  | brk => exact q
  | cont => exact q
theorem pss_one (h1 : PS X st t) : PSs X [st] t := by
  intro pins s σ H D I h
  refine wpAny_execs_cons (thn (h1 pins s σ H D I h) fun f s1 q => ?_)
  cases f with
  | next => exact wpAny_execs_nil q
  | ret v => exact q
  | brk => exact q
  | cont => exact q
def tBreak : TS := fun D σ H => D.bk σ H
def tCont : TS := fun D σ H => D.ct σ H
/-- in a def's body nothing is shown -/
theorem Inv.quiet {pins : List (Addr × Obj)} {σ : St} {H : Hp} {s : Shared} (I : Inv X pins σ H s) : interactive X.env = false := by simp [interactive, I.ok.kind]
/-- an expression whose value is dropped -/
def tDrop (te : TE) : TS := fun D σ H => te σ H fun _ H1 => D.nx σ H1
theorem ps_expr (he : PE X e te) (hs : swapsWith e none pos.line X.env = pure false := by rfl) : PS X (.Expr e pos) (tDrop te) := by
  intro pins s σ H D I h
  exact wpAny_Expr_any (thn (he pins s σ H _ I h) fun v s1 ⟨x, H1, I1, r1, q1⟩ => ⟨σ, H1, I1, q1⟩) I.quiet hs
def tRet (te : TE) : TS := fun D σ H => te σ H D.rt
theorem ps_ret (he : PE X e te) : PS X (.Return (some e) pos) (tRet te) := by
  intro pins s σ H D I h
  exact wpAny_Return_some (thn (he pins s σ H _ I h) fun v s1 ⟨x, H1, I1, r1, q1⟩ => ⟨x, σ, H1, I1, r1, q1⟩)
def tRetN : TS := fun D _ H => D.rt .non H
def tIfS (c : TT) (t u : TS) : TS := fun D σ H => c σ H fun b H1 => if b = true then t D σ H1 else u D σ H1
theorem ps_if {c : Expr} {a b : List Stmt} {tc : TT} (hc : PT X c tc) (ha : PSs X a t) (hb : PSs X b u) : PS X (.If c a b pos) (tIfS tc t u) := by
  intro pins s σ H D I h
  refine wpAny_If (thn (hc pins s σ H _ I h) fun d s1 ⟨H1, I1, q1⟩ => ?_)
  cases d with
  | true => exact ha pins s1 σ H1 D I1 q1
  | false => exact hb pins s1 σ H1 D I1 q1
end

/-! ### targets -/
abbrev TG := V → St → Hp → (St → Hp → Prop) → Prop
abbrev TGs := List V → St → Hp → (St → Hp → Prop) → Prop
def PG (X : Cx) (target : Expr) (t : TG) : Prop :=
  ∀ (pins : List (Addr × Obj)) (s : Shared) (σ : St) (H : Hp) (v : V) (u : Value) (Q : St → Hp → Prop), Inv X pins σ H s → RelV v u → t v σ H Q →
    wpAny (model X.prog X.w) X.A (assign target X.env u) (fun _ s' => ∃ σ' H', Inv X pins σ' H' s' ∧ Q σ' H') X.xe s
/-- several targets, one after another -/
def PGs (X : Cx) (ts : List Expr) (t : TGs) : Prop :=
  ∀ (pins : List (Addr × Obj)) (s : Shared) (σ : St) (H : Hp) (vs : List V) (us : List Value) (Q : St → Hp → Prop), Inv X pins σ H s → Vals vs us → t vs σ H Q →
    wpAny (model X.prog X.w) X.A (assignInOrder ((assignEach ts X.env).map (·.2)) us) (fun _ s' => ∃ σ' H', Inv X pins σ' H' s' ∧ Q σ' H') X.xe s
/-- o[i] = v, by values -/
abbrev TSet := V → V → V → Hp → (Hp → Prop) → Prop
section
variable {X : Cx} {pos : Pos}
def gName (i : Nat) : TG := fun v σ H Q => Q (σ.set i (some v)) H
theorem pg_name {i : Nat} {x : Str} (hN : X.N.Nodup) (hi : X.N[i]? = some x) (hx : Loc X.env.scope x) (hf : X.fn x = true ∨ X.env.scope.names.lookup x = some .local := by first | exact .inl rfl | exact .inr rfl | assumption) : PG X (.Name x pos) (gName i) := by
  intro pins s σ H v u Q I r h
  exact wpAny_assign_Name (store_ok I hN hi hx r (fun s' I' => ⟨_, H, I', h⟩) hf)
def gNil : TGs := fun vs σ H Q => vs = [] ∧ Q σ H
def gCons (t : TG) (u : TGs) : TGs := fun vs σ H Q => ∃ v r, vs = v :: r ∧ t v σ H fun σ' H' => u r σ' H' Q
theorem pgs_nil : PGs X [] gNil := by
  intro pins s σ H vs us Q I r h
  obtain ⟨e, h⟩ := h
  subst e
  cases r
  exact assignInOrder_nil ⟨σ, H, I, h⟩
theorem pgs_cons {e : Expr} {es : List Expr} {t : TG} {u : TGs} (h1 : PG X e t) (h2 : PGs X es u)
    (hs : (assignEach (e :: es) X.env).map (·.2) = assign e X.env :: (assignEach es X.env).map (·.2) := by rfl) : PGs X (e :: es) (gCons t u) := by
  intro pins s σ H vs us Q I r h
  obtain ⟨v, vr, e1, h⟩ := h
  subst e1
  cases r with
  | cons r rr =>
    rw [hs]
    refine assignInOrder_cons (thn (h1 pins s σ H _ _ _ I r h) fun _ s1 ⟨σ1, H1, I1, q1⟩ => ?_)
    exact h2 pins s1 σ1 H1 _ _ Q I1 rr q1
/-- (a, b, ..) = a tuple of that length -/
def gTup (K : PySem.W.Frag) (n : Nat) (t : TGs) : TG := fun v σ H Q => ∃ a xs, v = .ref a ∧ SqT K H a xs ∧ xs.length = n ∧ t xs σ H Q
theorem pg_tup {es : List Expr} {k : Nat} {t : TGs} {n : Nat} (hc : X.calm = true) (h : PGs X es t)
    (hn : (assignEach es X.env).length = n := by rfl) (hst : (assignEach es X.env).findIdx? (·.1) = none := by rfl) : PG X (.Tuple es k pos) (gTup X.K n t) := by
  intro pins s σ H v u Q I r hw
  obtain ⟨a, xs, e1, hq, hl, hw⟩ := hw
  subst e1
  cases r
  obtain ⟨its, rv, ht, hz⟩ := I.tuple hq
  refine assign_Tuple_tuple (I.ok.hd hc) ht (by simp [hn, ← hl, rv.length]) hst fun h' hx => ?_
  have I1 : Inv X pins σ H { s with heap := h' } := I.kept (t' := s.toks) fun b o e => hx b o (Nat.ne_of_lt (Heap.lt_size e)) e
  exact h pins _ σ H xs _ Q I1 (by simpa using rv) hw
/-- o[i] = .. -/
def gSub (to ti : TE) (t : TSet) : TG := fun v σ H Q => to σ H fun o H1 => ti σ H1 fun i H2 => t o i v H2 fun H3 => Q σ H3
/-- target = value -/
def tAsg (te : TE) (g : TG) : TS := fun D σ H => te σ H fun x H1 => g x σ H1 D.nx
/-- name = value -/
theorem ps_set {i : Nat} {x : Str} {e : Expr} {te : TE} {pos' : Pos} (hN : X.N.Nodup) (hi : X.N[i]? = some x) (hx : Loc X.env.scope x) (he : PE X e te) (hs : swapsWith e (some (.Name x pos')) pos.line X.env = pure false := by rfl) (hf : X.fn x = true ∨ X.env.scope.names.lookup x = some .local := by first | exact .inl rfl | exact .inr rfl | assumption) :
    PS X (.Assign [.Name x pos'] e pos) (tAsg te (gName i)) := by
  intro pins s σ H D I h
  refine wpAny_Assign_Name (thn (he pins s σ H _ I h) fun v s1 ⟨y, H1, I1, r1, q1⟩ => ?_) hs
  exact store_ok I1 hN hi hx r1 (fun s2 I2 => ⟨_, H1, I2, q1⟩) hf
end

/-! ### while -/
section
variable {X : Cx} {pos : Pos}
end

/-! ### what a loop or a comprehension walks -/
/-- at turn i: it yields x (the heap may grow), or it stops -/
structure It where
  go : Nat → Hp → Prop
  yld : Nat → Hp → V → Hp → Prop
  stop : Nat → Hp → Prop
/-- the iterator's own objects may turn: they are not the frame's, not pinned, younger than the entry (or a comprehension's own) -/
def FpOk (X : Cx) (pins : List (Addr × Obj)) (H : Hp) (b : Addr) : Prop :=
  H b = none ∧ b ≠ X.env.locals ∧ b ∉ X.fs ∧ (b ∈ X.ex ∨ X.s_0.heap.objs.size ≤ b) ∧ (∀ x c, X.env.cells.lookup x = some c → c ≠ b) ∧ ∀ p ∈ X.pn ++ pins, p.1 ≠ b
theorem Inv.fpOk {X : Cx} {pins : List (Addr × Obj)} {σ : St} {H H' : Hp} {s : Shared} {b : Addr} (I : Inv X pins σ H s) (hb : s.heap.objs.size ≤ b) (hn : H' b = none) : FpOk X pins H' b := by
  refine ⟨hn, Nat.ne_of_gt (Nat.lt_of_lt_of_le I.lt hb), I.nofs hb, .inr (Nat.le_trans I.sz hb), fun x c e z => ?_, fun p hp z => ?_⟩
  · obtain ⟨v, q⟩ := I.cell x c e
    exact absurd (Nat.lt_of_lt_of_le q.lt (by rw [z]; exact hb)) (Nat.lt_irrefl _)
  · exact absurd (Nat.lt_of_lt_of_le (Heap.lt_size (I.pin p hp).1) (by rw [z]; exact hb)) (Nat.lt_irrefl _)
structure Turn (P : Program) (w : World) (K : PySem.W.Frag) (tg : Expr) (J : It) (fp : List Addr) (it : Addr) (tn : Nat → Heap → Prop) : Prop where
  mem : it ∈ fp
  obj : ∀ i h, tn i h → ∀ b ∈ fp, ∃ o, h.get? b = some o ∧ ∀ v, o.data ≠ .cell v
  keep : ∀ i h h', tn i h → (∀ b ∈ fp, ∀ o, h.get? b = some o → h'.get? b = some o) → tn i h'
  item : ∀ (X : Cx), X.prog = P → X.w = w → X.K = K → X.calm = true → ∀ (i : Nat) (pins : List (Addr × Obj)) (s : Shared) (σ : St) (H : Hp) (E : Value → Shared → Prop), Inv X pins σ H s → (∀ b ∈ fp, FpOk X pins H b) → tn i s.heap → J.go i H →
    wpAny (model P w) X.A (pyNext (.ref it)) (fun r s1 => ∃ u, r = some u ∧
      wpAny (model P w) X.A (letOwnedTupleGo tg (.ref it) u) (fun _ s2 => ∃ x H', Inv X pins σ H' s2 ∧ RelV x u ∧ J.yld i H x H' ∧ tn (i + 1) s2.heap ∧ ∀ b ∈ fp, H' b = none) E s1) E s
  done : ∀ (X : Cx), X.prog = P → X.w = w → X.K = K → X.calm = true → ∀ (i : Nat) (pins : List (Addr × Obj)) (s : Shared) (σ : St) (H : Hp) (E : Value → Shared → Prop), Inv X pins σ H s → (∀ b ∈ fp, FpOk X pins H b) → tn i s.heap → J.stop i H →
    wpAny (model P w) X.A (pyNext (.ref it)) (fun r s1 => r = none ∧ Inv X pins σ H s1) E s
  self : ∀ (A : Around) (i : Nat) (s : Shared) (Q : Value → Shared → Prop) (E : Value → Shared → Prop), tn i s.heap → Q (.ref it) s → wpAny (model P w) A (pyIter (.ref it)) Q E s
abbrev TI := St → Hp → (It → Hp → Prop) → Prop
/-- an iterator has come -/
def PIE (X : Cx) (pins : List (Addr × Obj)) (σ : St) (tg : Expr) (R : It → Hp → Prop) (itv : Value) (s2 : Shared) : Prop :=
  ∃ (it : Addr) (fp : List Addr) (tn : Nat → Heap → Prop) (J : It) (H' : Hp), itv = .ref it ∧ Inv X pins σ H' s2 ∧ Turn X.prog X.w X.K tg J fp it tn ∧ tn 0 s2.heap ∧ (∀ b ∈ fp, FpOk X pins H' b) ∧ R J H'
def PI (X : Cx) (tg iter : Expr) (wi : TI) : Prop :=
  ∀ (pins : List (Addr × Obj)) (s : Shared) (σ : St) (H : Hp) (R : It → Hp → Prop), Inv X pins σ H s → wi σ H R →
    wpAny (model X.prog X.w) X.A (eval iter X.env) (fun v s1 => wpAny (model X.prog X.w) X.A (pyIter v) (PIE X pins σ tg R) X.xe s1) X.xe s


/-- the list at a, as it stands at each turn (a loop may append to it) -/
def Itl (K : PySem.W.Frag) (a : Addr) : It :=
  ⟨fun i H => ∃ xs x, SqL K H a xs ∧ xs[i]? = some x, fun i H x H' => H' = H ∧ ∀ xs, SqL K H a xs → xs[i]? = some x, fun i H => ∃ xs, SqL K H a xs ∧ xs.length ≤ i⟩
def Itt (K : PySem.W.Frag) (a : Addr) : It :=
  ⟨fun i H => ∃ xs x, SqT K H a xs ∧ xs[i]? = some x, fun i H x H' => H' = H ∧ ∀ xs, SqT K H a xs → xs[i]? = some x, fun i H => ∃ xs, SqT K H a xs ∧ xs.length ≤ i⟩
/-- lo, lo + 1, .. (n of them) -/
def Itr (lo : Int) (n : Nat) : It := ⟨fun i _ => i < n, fun i H x H' => H' = H ∧ x = .int (lo + i), fun i _ => n ≤ i⟩
end L2

namespace L2
open PySem PySem.Spec PyProof.Rows
section
variable {X : Cx} {tg : Expr}
def iList (K : PySem.W.Frag) (tl : TE) : TI := fun σ H R => tl σ H fun x H1 => ∃ a, x = .ref a ∧ (∃ xs, SqL K H1 a xs) ∧ R (Itl K a) H1
def iTup (K : PySem.W.Frag) (tl : TE) : TI := fun σ H R => tl σ H fun x H1 => ∃ a, x = .ref a ∧ (∃ xs, SqT K H1 a xs) ∧ R (Itt K a) H1
def iRng1 (ta : TA) : TI := fun σ H R => ta σ H fun vs H1 => ∃ j : Int, vs = [.int j] ∧ -(2 ^ 62) ≤ j ∧ j < 2 ^ 62 ∧ R (Itr 0 j.toNat) H1
def iRng2 (ta : TA) : TI := fun σ H R => ta σ H fun vs H1 => ∃ i j : Int, vs = [.int i, .int j] ∧ (-(2 ^ 62) ≤ i ∧ i < 2 ^ 62 ∧ -(2 ^ 62) ≤ j ∧ j < 2 ^ 62) ∧ R (Itr i (j - i).toNat) H1

/-! ### for -/
/-- W: the invariant by the turn and a measure; N: what the body is to reach -/
def tFor (wi : TI) (g : TG) (tb : TS) : TS := fun D σ H => wi σ H fun J H1 => ∃ W : Nat → Nat → St → Hp → Prop, (∃ m, W 0 m σ H1) ∧ ∀ i m σ H, W i m σ H →
  (J.stop i H ∧ D.nx σ H) ∨ (J.go i H ∧ ∃ N : St → Hp → Prop, (∀ σ' H', N σ' H' → ∃ m', m' < m ∧ W (i + 1) m' σ' H') ∧ ∀ x H', J.yld i H x H' → g x σ H' fun σ2 H2 => tb { D with nx := N, ct := N, bk := D.nx } σ2 H2)
/-- the records at fp as they stand -/
def pinsAt (fp : List Addr) (h : Heap) : List (Addr × Obj) := fp.filterMap fun b => (h.get? b).map fun o => (b, o)
theorem mem_pinsAt {fp : List Addr} {h : Heap} {b : Addr} {o : Obj} (hb : b ∈ fp) (e : h.get? b = some o) : (b, o) ∈ pinsAt fp h := List.mem_filterMap.mpr ⟨b, hb, by rw [e]; rfl⟩
theorem of_pinsAt {fp : List Addr} {h : Heap} {p : Addr × Obj} (hp : p ∈ pinsAt fp h) : p.1 ∈ fp ∧ h.get? p.1 = some p.2 := by
  obtain ⟨b, hb, e⟩ := List.mem_filterMap.mp hp
  cases q : h.get? b with
  | none => rw [q] at e; cases e
  | some o =>
    rw [q] at e
    have e' : (b, o) = p := Option.some.inj e
    subst e'
    exact ⟨hb, q⟩
theorem Inv.pinned {pins : List (Addr × Obj)} {σ : St} {H : Hp} {s : Shared} {fp : List Addr} (I : Inv X pins σ H s) (hf : ∀ b ∈ fp, FpOk X pins H b) (ho : ∀ b ∈ fp, ∃ o, s.heap.get? b = some o ∧ ∀ v, o.data ≠ .cell v) : Inv X (pins ++ pinsAt fp s.heap) σ H s :=
  I.pins_of fun p hp => (List.mem_append.mp hp).elim (fun z => I.pin p (List.mem_append_right _ z)) fun z => by
    obtain ⟨hb, e⟩ := of_pinsAt z
    obtain ⟨f0, f1, f2, _⟩ := hf p.1 hb
    obtain ⟨o, e', d⟩ := ho p.1 hb
    rw [e] at e'; cases e'
    exact ⟨e, f0, f1, f2, d⟩
theorem Inv.unpinned {pins pl : List (Addr × Obj)} {σ : St} {H : Hp} {s : Shared} (I : Inv X (pins ++ pl) σ H s) : Inv X pins σ H s := I.pins_of fun p hp => I.pin p (List.mem_append_right _ (List.mem_append_left _ hp))
theorem ps_for {iter : Expr} {body : List Stmt} {wi : TI} {g : TG} {tb : TS} {pos : Pos} (hp : PassesOwn (model X.prog X.w) X.A X.env X.xe) (hc : X.calm = true) (hi : PI X tg iter wi) (hg : PG X tg g) (hb : PSs X body tb)
    (hs : ∀ x, foldedSetIterable iter X.env x = pure x := by intro _; rfl) : PS X (.For tg iter body [] pos) (tFor wi g tb) := by
  intro pins s σ H D I h
  refine wpAny_For (thn (hi pins s σ H _ I h) fun v s1 h1 => thn h1 fun itv s2 h2 => ?_) hs
  obtain ⟨it, fp, tn, J, H2, e, I2, T, st2, f2, W, ⟨m0, w0⟩, turn⟩ := h2
  subst e
  -- what stays true of the iterator's objects through the loop
  have stat : ∀ {H' : Hp}, (∀ b ∈ fp, H' b = none) → ∀ b ∈ fp, FpOk X pins H' b := fun hn b hb => ⟨hn b hb, (f2 b hb).2⟩
  refine codeAny_forLoop_any (fun n s' => ∃ i σ' H', Inv X pins σ' H' s' ∧ tn i s'.heap ∧ (∀ b ∈ fp, H' b = none) ∧ W i n σ' H') ?_ m0 ⟨0, σ, H2, I2, st2, fun b hb => (f2 b hb).1, w0⟩
  rintro n s3 ⟨i, σ3, H3, I3, st3, fr3, w3⟩
  rcases turn i n σ3 H3 w3 with ⟨stop, qn⟩ | ⟨go, N, hN, step⟩
  · refine wpAny_passesOwn hp (thn (T.done X rfl rfl rfl hc i pins s3 σ3 H3 X.xe I3 (stat fr3) st3 stop) fun r s4 ⟨hr, I4⟩ => ?_)
    subst hr
    exact wpAny_execs_nil ⟨σ3, H3, I4, qn⟩
  · refine wpAny_passesOwn hp (thn (T.item X rfl rfl rfl hc i pins s3 σ3 H3 X.xe I3 (stat fr3) st3 go) fun r s4 ⟨u, hr, h4⟩ => ?_)
    subst hr
    refine wpAny_passesOwn hp (thn h4 fun _ s5 ⟨x, H5, I5, r5, y5, st5, fr5⟩ => ?_)
    have I5' := I5.pinned (stat fr5) (T.obj _ _ st5)
    refine wpAny_passesOwn hp (thn (hg _ s5 σ3 H5 x u _ I5' r5 (step x H5 y5)) fun _ s6 ⟨σ6, H6, I6, q6⟩ => ?_)
    refine wpAny_passesOwn hp (thn (hb _ s6 σ6 H6 _ I6 q6) fun f s7 q7 => ?_)
    have again : ∀ {σ7 : St} {H7 : Hp}, Inv X (pins ++ pinsAt fp s5.heap) σ7 H7 s7 → N σ7 H7 → ∃ m, m < n ∧ ∃ i σ' H', Inv X pins σ' H' s7 ∧ tn i s7.heap ∧ (∀ b ∈ fp, H' b = none) ∧ W i m σ' H' := fun {σ7 H7} I7 n7 => by
      obtain ⟨m', hm, w7⟩ := hN σ7 H7 n7
      refine ⟨m', hm, i + 1, σ7, H7, I7.unpinned, T.keep _ _ _ st5 fun b hb o e => (I7.pin (b, o) (List.mem_append_right _ (List.mem_append_right _ (mem_pinsAt hb e)))).1, fun b hb => ?_, w7⟩
      obtain ⟨o, e, d⟩ := T.obj _ _ st5 b hb
      exact (I7.pin (b, o) (List.mem_append_right _ (List.mem_append_right _ (mem_pinsAt hb e)))).2.1
    cases f with
    | next => obtain ⟨σ7, H7, I7, n7⟩ := q7; exact again I7 n7
    | cont => obtain ⟨σ7, H7, I7, n7⟩ := q7; exact again I7 n7
    | brk => obtain ⟨σ7, H7, I7, q7⟩ := q7; exact ⟨σ7, H7, I7.unpinned, q7⟩
    | ret v => obtain ⟨x7, σ7, H7, I7, r7, q7⟩ := q7; exact ⟨x7, σ7, H7, I7.unpinned, r7, q7⟩
end

/-! ### the forms one uses -/
end L2

namespace L2
open PySem PySem.Spec PyProof.Rows

abbrev R2 := V → V → Hp → VK → Prop
/-- a two-place operation on values: f is binaryOp op, inplaceOp op or compareOp op -/
def OpR (X : Cx) (f : Value → Value → Sem Value) (r : R2) : Prop :=
  ∀ (pins : List (Addr × Obj)) (s : Shared) (σ : St) (H : Hp) (x y : V) (v u : Value) (Q : VK), Inv X pins σ H s → RelV x v → RelV y u → r x y H Q →
    wpAny (model X.prog X.w) X.A (f v u) (EP X pins σ Q) X.xe s
/-- a call of a value that is known (a builtin, a type) with values -/
def CallR (X : Cx) (f : Value) (r : List V → Hp → VK → Prop) : Prop :=
  ∀ (pins : List (Addr × Obj)) (s : Shared) (σ : St) (H : Hp) (xs : List V) (us : List Value) (Q : VK), Inv X pins σ H s → Vals xs us → r xs H Q →
    wpAny (model X.prog X.w) X.A (call f us) (EP X pins σ Q) X.xe s

def tOp (r : R2) (ta tb : TE) : TE := fun σ H Q => ta σ H fun x H1 => tb σ H1 fun y H2 => r x y H2 Q
def tUn (r : V → Hp → VK → Prop) (ta : TE) : TE := fun σ H Q => ta σ H fun x H1 => r x H1 Q
/-- ints in, under C, and a value out -/
def rI (C : Int → Int → Prop) (g : Int → Int → V) : R2 := fun x y H Q => ∃ i j, x = .int i ∧ y = .int j ∧ C i j ∧ Q (g i j) H
def rI0 (g : Int → Int → V) : R2 := fun x y H Q => ∃ i j, x = .int i ∧ y = .int j ∧ Q (g i j) H
def rU (g : Int → V) : V → Hp → VK → Prop := fun x H Q => ∃ i, x = .int i ∧ Q (g i) H

section
variable {X : Cx} {a b c : Expr} {ta tb tc : TE} {pos : Pos}

theorem binT (ha : PE X a ta) (hb : PE X b tb) {pins : List (Addr × Obj)} {s : Shared} {σ : St} {H : Hp} {R : V → V → Hp → Prop} (I : Inv X pins σ H s)
    (h : ta σ H fun x H1 => tb σ H1 fun y H2 => R x y H2) {Q : Value → Shared → Prop} {f : Value → Value → Sem Value}
    (hf : ∀ v u s2 x y H2, Inv X pins σ H2 s2 → RelV x v → RelV y u → R x y H2 → wpAny (model X.prog X.w) X.A (f v u) Q X.xe s2) :
    wpAny (model X.prog X.w) X.A (eval a X.env) (fun v s₁ => wpAny (model X.prog X.w) X.A (eval b X.env) (fun u s₂ => wpAny (model X.prog X.w) X.A (f v u) Q X.xe s₂) X.xe s₁) X.xe s := by
  refine thn (ha pins s σ H _ I h) fun v s1 ⟨x, H1, I1, r1, q1⟩ => ?_
  refine thn (hb pins s1 σ H1 _ I1 q1) fun u s2 ⟨y, H2, I2, r2, q2⟩ => ?_
  exact hf v u s2 x y H2 I2 r1 r2 q2

theorem pe_op {op : Operator} {r : R2} (ho : OpR X (binaryOp op) r) (ha : PE X a ta) (hb : PE X b tb) : PE X (.BinOp a op b pos) (tOp r ta tb) := by
  intro pins s σ H Q I h
  exact wpAny_BinOp (binT ha hb I h fun v u s2 x y H2 I2 rx ry q => ho pins s2 σ H2 x y v u Q I2 rx ry q)

/-! ### ints -/
theorem opI {f : Value → Value → Sem Value} {C : Int → Int → Prop} {g : Int → Int → Int}
    (rule : ∀ (i j : Int) (t u : Tok) (s : Shared) (Q : Value → Shared → Prop) (E : Value → Shared → Prop), C i j → Q (.int (g i j) s.toks) { s with toks := s.toks + 1 } → wpAny (model X.prog X.w) X.A (f (.int i t) (.int j u)) Q E s) :
    OpR X f (rI C fun i j => .int (g i j)) := by
  intro pins s σ H x y v u Q I rx ry h
  obtain ⟨i, j, rfl, rfl, hc, q⟩ := h
  obtain ⟨t, rfl⟩ := rx
  obtain ⟨t', rfl⟩ := ry
  exact rule i j t t' s _ _ hc ⟨.int (g i j), H, I.tok _, ⟨_, rfl⟩, q⟩
theorem opI0 {f : Value → Value → Sem Value} {g : Int → Int → Int}
    (rule : ∀ (i j : Int) (t u : Tok) (s : Shared) (Q : Value → Shared → Prop) (E : Value → Shared → Prop), Q (.int (g i j) s.toks) { s with toks := s.toks + 1 } → wpAny (model X.prog X.w) X.A (f (.int i t) (.int j u)) Q E s) :
    OpR X f (rI0 fun i j => .int (g i j)) := by
  intro pins s σ H x y v u Q I rx ry h
  obtain ⟨i, j, rfl, rfl, q⟩ := h
  obtain ⟨t, rfl⟩ := rx
  obtain ⟨t', rfl⟩ := ry
  exact rule i j t t' s _ _ ⟨.int (g i j), H, I.tok _, ⟨_, rfl⟩, q⟩
theorem opB0 {f : Value → Value → Sem Value} {g : Int → Int → Bool}
    (rule : ∀ (i j : Int) (t u : Tok) (s : Shared) (Q : Value → Shared → Prop) (E : Value → Shared → Prop), Q (.bool (g i j)) s → wpAny (model X.prog X.w) X.A (f (.int i t) (.int j u)) Q E s) :
    OpR X f (rI0 fun i j => .bl (g i j)) := by
  intro pins s σ H x y v u Q I rx ry h
  obtain ⟨i, j, rfl, rfl, q⟩ := h
  obtain ⟨t, rfl⟩ := rx
  obtain ⟨t', rfl⟩ := ry
  exact rule i j t t' s _ _ ⟨.bl (g i j), H, I, rfl, q⟩

def CDiv (i j : Int) : Prop := 0 < j ∧ j < 1073741824
def CMul (i j : Int) : Prop := (-(2 ^ 64) < i ∧ i < 2 ^ 64) ∨ (-(2 ^ 64) < j ∧ j < 2 ^ 64)
theorem CMul.ok {i j : Int} (h : CMul i j) : IntMulOk i j := by
  rcases h with ⟨h1, h2⟩ | ⟨h1, h2⟩
  · exact .of_left (intBits_le_64 h1 h2)
  · exact .of_right (intBits_le_64 h1 h2)

theorem op_add : OpR X (binaryOp .Add) (rI0 fun i j => .int (i + j)) := opI0 fun _ _ _ _ _ _ _ q => add_int q
theorem op_sub : OpR X (binaryOp .Sub) (rI0 fun i j => .int (i - j)) := opI0 fun _ _ _ _ _ _ _ q => sub_int q
theorem op_mul : OpR X (binaryOp .Mult) (rI CMul fun i j => .int (i * j)) := opI fun _ _ _ _ _ _ _ hc q => mul_int q hc.ok
/-- // by a positive divisor -/
theorem op_fdiv : OpR X (binaryOp .FloorDiv) (rI CDiv fun i j => .int (i / j)) := opI fun i j _ _ _ _ _ hc q => by
  have h1 : (0 : Int) < j := hc.1
  have h2 : j < 1073741824 := hc.2
  exact floordiv_int (by omega) (by rw [Int.fdiv_eq_ediv_of_nonneg i (by omega)]; exact q) (.inl (PyProof.noPylong_small (by omega)))
/-- % by a positive divisor of any size -/
theorem op_mod : OpR X (binaryOp .Mod) (rI (fun _ j => 0 < j) fun i j => .int (i % j)) := opI fun i j _ _ _ _ _ hc q => by
  have h1 : (0 : Int) < j := hc
  exact mod_int' (by omega) (by rw [Int.fmod_eq_emod_of_nonneg i (by omega)]; exact q)



/-! ### bools among ints: n += (a < b) -/
end

/-! ### comparisons -/
/-- the scalars that == tells apart as data does -/
def scal : V → V → Bool
  | .non, .non => true | .non, .int _ => true | .int _, .non => true | .non, .bl _ => true | .bl _, .non => true | .non, .str _ => true | .str _, .non => true
  | .int _, .int _ => true | .bl _, .bl _ => true | .str _, .str _ => true | .byt _, .byt _ => true
  | .int _, .str _ => true | .str _, .int _ => true | .bl _, .str _ => true | .str _, .bl _ => true
  | _, _ => false
def rEq : R2 := fun x y H Q => scal x y = true ∧ Q (.bl (decide (x = y))) H
def rNe : R2 := fun x y H Q => scal x y = true ∧ Q (.bl (!decide (x = y))) H

theorem dec_int {i j : Int} : decide (V.int i = V.int j) = (i == j) := by
  rw [Bool.eq_iff_iff]
  simp
theorem dec_bl {i j : Bool} : decide (V.bl i = V.bl j) = (i == j) := by
  rw [Bool.eq_iff_iff]
  simp
theorem dec_str {i j : Str} : decide (V.str i = V.str j) = (i == j) := by
  rw [Bool.eq_iff_iff]
  simp
theorem dec_byt {i j : Array UInt8} : decide (V.byt i = V.byt j) = (i.toList == j.toList) := by
  rw [Bool.eq_iff_iff]
  cases i
  cases j
  simp

section
variable {X : Cx} {a b c : Expr} {ta tb tc : TE} {pos : Pos}
theorem fin_bl {pins : List (Addr × Obj)} {σ : St} {H : Hp} {s : Shared} {Q : VK} {k k' : Bool} (I : Inv X pins σ H s) (q : Q (.bl k) H) (e : k = k') : EP X pins σ Q (.bool k') s := by
  subst e
  exact ⟨.bl k, H, I, rfl, q⟩
theorem op_eq : OpR X (compareOp .Eq) rEq := by
  intro pins s σ H x y v u Q I rx ry h
  obtain ⟨hs, q⟩ := h
  cases x with
  | non =>
    cases rx
    cases y with
    | non => cases ry; exact PySem.EqNone.eq_none_none (fin_bl I q (by simp))
    | bl j => cases ry; exact PySem.EqNone.eq_none_bool (fin_bl I q (by simp))
    | int j => obtain ⟨t', rfl⟩ := ry; exact PySem.EqNone.eq_none_int (fin_bl I q (by simp))
    | str j => obtain ⟨t', rfl⟩ := ry; exact PySem.EqNone.eq_none_str (fin_bl I q (by simp))
    | _ => exact absurd (show false = true from hs) Bool.false_ne_true
  | bl i =>
    cases rx
    cases y with
    | non => cases ry; exact PySem.EqNone.eq_bool_none (fin_bl I q (by simp))
    | bl j => cases ry; exact eq_bool (fin_bl I q dec_bl)
    | str j => obtain ⟨t', rfl⟩ := ry; exact PySem.EqMixed.eq_bool_str (fin_bl I q (by simp))
    | _ => exact absurd (show false = true from hs) Bool.false_ne_true
  | int i =>
    obtain ⟨t, rfl⟩ := rx
    cases y with
    | non => cases ry; exact PySem.EqNone.eq_int_none (fin_bl I q (by simp))
    | int j => obtain ⟨t', rfl⟩ := ry; exact eq_int (fin_bl I q dec_int)
    | str j => obtain ⟨t', rfl⟩ := ry; exact PySem.EqMixed.eq_int_str (fin_bl I q (by simp))
    | _ => exact absurd (show false = true from hs) Bool.false_ne_true
  | str i =>
    obtain ⟨t, rfl⟩ := rx
    cases y with
    | non => cases ry; exact PySem.EqNone.eq_str_none (fin_bl I q (by simp))
    | bl j => cases ry; exact PySem.EqMixed.eq_str_bool (fin_bl I q (by simp))
    | int j => obtain ⟨t', rfl⟩ := ry; exact PySem.EqMixed.eq_str_int (fin_bl I q (by simp))
    | str j => obtain ⟨t', rfl⟩ := ry; exact eq_str (fin_bl I q dec_str)
    | _ => exact absurd (show false = true from hs) Bool.false_ne_true
  | byt i =>
    obtain ⟨t, rfl⟩ := rx
    cases y with
    | byt j => obtain ⟨t', rfl⟩ := ry; exact PySem.W.eq_bytes (fin_bl I q dec_byt)
    | _ => exact absurd (show false = true from hs) Bool.false_ne_true
  | _ => cases y <;> exact absurd (show false = true from hs) Bool.false_ne_true

theorem op_gt : OpR X (compareOp .Gt) (rI0 fun i j => .bl (decide (j < i))) := opB0 fun _ _ _ _ _ _ _ q => gt_int q

theorem op_notN : OpR X (compareOp .IsNot) (fun x y H Q => y = .non ∧ Q (.bl (!decide (x = .non))) H) := by
  intro pins s σ H x y v u Q I rx ry h
  obtain ⟨rfl, q⟩ := h
  cases ry
  refine isnot_none_gen (fin_bl I q ?_)
  cases x <;> first
    | (cases rx; rfl)
    | (obtain ⟨t, rfl⟩ := rx; rfl)



theorem nomark (b : Expr) {op : CmpOp} (h : op ≠ .In := by decide) (h2 : op ≠ .NotIn := by decide) : behindInMarks op b = false := by
  have e1 : (op == CmpOp.In) = false := by cases op <;> first | rfl | exact absurd rfl h
  have e2 : (op == CmpOp.NotIn) = false := by cases op <;> first | rfl | exact absurd rfl h2
  cases b <;> simp [behindInMarks, e1, e2]
/-- a comparison as a value; hm: nomark b, or (for in, not in) by with_unfolding_all rfl -/
theorem pe_cmpR {op : CmpOp} {r : R2} (ho : OpR X (compareOp op) r) (ha : PE X a ta) (hb : PE X b tb) (hm : behindInMarks op b = false) : PE X (.Compare a [op] [b] pos) (tOp r ta tb) := by
  intro pins s σ H Q I h
  exact wpAny_Compare1 (binT ha hb I h fun v u s2 x y H2 I2 rx ry q => ho pins s2 σ H2 x y v u Q I2 rx ry q) hm
/-- a reading of a value as a test -/
def tTest (t : TE) : TT := fun σ H Q => t σ H fun x H' => ∃ k, x = .bl k ∧ Q k H'
theorem pt_cmpR {op : CmpOp} {r : R2} (ho : OpR X (compareOp op) r) (ha : PE X a ta) (hb : PE X b tb) (hm : behindInMarks op b = false) : PT X (.Compare a [op] [b] pos) (tTest (tOp r ta tb)) := by
  intro pins s σ H Q I h
  refine wpAny_isTrue_Compare1 (thn (ha pins s σ H _ I h) fun v s1 ⟨x, H1, I1, r1, q1⟩ => thn (hb pins s1 σ H1 _ I1 q1) fun u s2 ⟨y, H2, I2, r2, q2⟩ =>
    thn (ho pins s2 σ H2 x y v u _ I2 r1 r2 q2) fun c s3 ⟨z, H3, I3, r3, k, e, q3⟩ => ?_) hm
  subst e
  cases r3
  exact wpAny_truthy_bool ⟨H3, I3, q3⟩
/-- a op1 b op2 c -/
def tChain (r r' : R2) (ta tb tc : TE) : TE := fun σ H Q => ta σ H fun x H1 => tb σ H1 fun y H2 => r x y H2 fun z H3 => ∃ k, z = .bl k ∧
  (if k = true then tc σ H3 fun w' H4 => r' y w' H4 Q else Q (.bl false) H3)

/-! ### truth -/
theorem line63 : (sizeLine : Nat) < 2 ^ 63 := by rw [sizeLine_eq]; decide

/-! ### strs and bytes -/


/-! ### scalar builtins, by CallR -/
theorem vals1 {x : V} {us : List Value} (r : Vals [x] us) : ∃ u, us = [u] ∧ RelV x u := by
  cases r with
  | cons r1 r2 => cases r2; exact ⟨_, rfl, r1⟩
theorem vals2 {x y : V} {us : List Value} (r : Vals [x, y] us) : ∃ u w', us = [u, w'] ∧ RelV x u ∧ RelV y w' := by
  cases r with
  | cons r1 r2 =>
    cases r2 with
    | cons r3 r4 => cases r4; exact ⟨_, _, rfl, r1, r3⟩
theorem call_min2 (hc : X.calm = true) : CallR X (.builtin "min") (fun xs H Q => ∃ i j, xs = [.int i, .int j] ∧ Q (.int (if j < i then j else i)) H) := by
  intro pins s σ H xs us Q I r h
  obtain ⟨i, j, rfl, q⟩ := h
  obtain ⟨u, w', rfl, ⟨t, rfl⟩, ⟨t', rfl⟩⟩ := vals2 r
  refine min_two_ints (I.ok.hd hc) fun h' tk k => ⟨_, H, I.kept k, ?_, q⟩
  by_cases hj : j < i
  · rw [if_pos hj, if_pos hj]; exact ⟨_, rfl⟩
  · rw [if_neg hj, if_neg hj]; exact ⟨_, rfl⟩
end
end L2

namespace L2
open PySem PySem.Spec PyProof.Rows

/-! ### an instance, its attributes a map -/



section
variable {prog : Program} {w : World} {A : Around} {E : Value → Shared → Prop} {s : Shared} {K : PySem.W.Frag} {x dx C f : Addr} {mA : Str → Option Value} {name : Str} {v : Value}





end

/-! ### the attributes as a list of pairs -/


section
variable {P : Program} {w : World} {H H' : Hp} {h h' : Heap} {a C dx : Addr} {fs fs' : List (Str × V)}
end

/-! ### what of the text a class must have -/

section
variable {X : Cx} {pins : List (Addr × Obj)} {σ : St} {H : Hp} {s : Shared} {a C dx : Addr} {fs : List (Str × V)} {f : Str} {v : V} {A : Around} {E : Value → Shared → Prop}






end

/-! ### readings and rules -/

section
variable {X : Cx} {o e value : Expr} {f : Str} {pos pos' tpos : Pos} {ta tv : TE}

end

/-! ### isinstance -/
section
variable {X : Cx} {pins : List (Addr × Obj)} {σ : St} {H : Hp} {s : Shared} {A : Around} {E : Value → Shared → Prop} {Q : Value → Shared → Prop} {c : Value} {b : Bool}
end
end L2

namespace L2
open PySem PySem.Spec PyProof.Rows

/-! ### room -/
structure Room (k : Nat) (A : Around) : Prop where
  hd : A.handled = none
  dp : A.depth + 3 * k + 5 < recursionLimit
  un : A.units + 16 * k + 200 < cLine
theorem Room.mono {j k : Nat} {A : Around} (r : Room k A) (h : j ≤ k) : Room j A := ⟨r.hd, by have := r.dp; omega, by have := r.un; omega⟩
theorem Room.deeper {k : Nat} {A : Around} (r : Room (k + 1) A) (env : Env) : Room k (A.deeper env) :=
  ⟨r.hd, by have := r.dp; show A.depth + 1 + 3 * k + 5 < _; omega, by have := r.un; show A.units + 3 + 16 * k + 200 < _; omega⟩
theorem Room.depth {k : Nat} {A : Around} (r : Room k A) : A.depth < recursionLimit := by have := r.dp; omega
theorem Room.units {k : Nat} {A : Around} (r : Room k A) : A.units + 64 < cLine := by have := r.un; omega

/-! ### argument lists and displays -/
def tNil : TA := fun _ H Q => Q [] H
def tCons (ta : TE) (tr : TA) : TA := fun σ H Q => ta σ H fun x H1 => tr σ H1 fun xs H2 => Q (x :: xs) H2
section
variable {X : Cx} {e : Expr} {es : List Expr} {te : TE} {t : TA} {pos : Pos}
theorem pa_nil : PA X [] tNil := fun _ _ _ _ H Q I h => Calls.spliced_nil ⟨[], H, I, .nil, h⟩
theorem pa_cons (ha : PE X e te) (hr : PA X es t) (hs : starEach (e :: es) X.env = (false, eval e X.env) :: starEach es X.env := by rfl) : PA X (e :: es) (tCons te t) := by
  intro pos pins s σ H Q I h
  rw [hs]
  show wpAny _ _ (spliced ((false, eval e X.env) :: backTo pos (starEach es X.env))) _ _ s
  refine Calls.spliced_cons (thn (ha pins s σ H _ I h) fun u s1 ⟨x, H1, I1, r1, q1⟩ => ?_)
  exact thn (hr pos pins s1 σ H1 _ I1 q1) fun us s2 ⟨xs, H2, I2, r2, q2⟩ => ⟨x :: xs, H2, I2, .cons r1 r2, q2⟩

/-- a tuple, a list of written items -/
def tTup (t : TA) : TE := fun σ H Q => t σ H fun xs H1 => xs.length ≤ sizeLine ∧ ∀ p, H1 p = none → Q (.ref p) (upd H1 p (.tup xs))
def tLst (t : TA) : TE := fun σ H Q => t σ H fun xs H1 => xs.length ≤ sizeLine ∧ ∀ p, H1 p = none → Q (.ref p) (upd H1 p (.lst xs))
theorem pe_tup {x1} (h : PA X es t) : PE X (.Tuple es x1 pos) (tTup t) := by
  intro pins s σ H Q I hq
  refine wpAny_Tuple_spliced (thn (h pos pins s σ H _ I hq) fun us s1 ⟨xs, H1, I1, r, z, q⟩ => ⟨by rw [← r.length]; exact z, ?_⟩)
  have hf : H1 s1.heap.objs.size = none := I1.hok.fresh (Nat.le_refl _)
  refine ⟨.ref s1.heap.objs.size, upd H1 s1.heap.objs.size (.tup xs), I1.laid (t' := s1.toks) (fun b u e => Heap.get?_push_of_some _ e) (Nat.le_refl _) ?_, rfl, q _ hf⟩
  exact ⟨z, us, r, ⟨_, Heap.get?_push_size _ rfl, rfl, _, rfl⟩⟩
theorem pe_lst (h : PA X es t) : PE X (.List es pos) (tLst t) := by
  intro pins s σ H Q I hq
  refine wpAny_List_spliced (thn (h pos pins s σ H _ I hq) fun us s1 ⟨xs, H1, I1, r, z, q⟩ => ⟨by rw [← r.length]; exact z, ?_⟩)
  have hf : H1 s1.heap.objs.size = none := I1.hok.fresh (Nat.le_refl _)
  refine ⟨.ref s1.heap.objs.size, upd H1 s1.heap.objs.size (.lst xs), I1.laid (t' := s1.toks) (fun b u e => Heap.get?_push_of_some _ e) (Nat.le_refl _) ?_, rfl, q _ hf⟩
  exact ⟨z, us, 0, r, Heap.get?_push_size _ rfl⟩
end

/-! ### what a def promises -/
/-- a def's promise: the bound arguments in the parameters' order, the heap, the wanted end, the wanted exception -/
abbrev Sp := List V → Hp → VK → XK → Prop
/-- how an exception lies behind a call (file 08 gives it): the callers' frames, abstract heap and state ahead of the call, the wish, the exception, the state -/
abbrev CXT := List Env → Hp → Shared → XK → Value → Shared → Prop

/-- the state at a call -/
structure Env0 (P : Program) (w : World) (K : PySem.W.Frag) (mg : Str → Option Value) (base : Heap) (A : Around) (outer : List Env) (s : Shared) (H : Hp) : Prop where
  frames : A.frames = some outer
  mod : Mod K mg base
  bs : ∀ b o, base.get? b = some o → s.heap.get? b = some o ∧ H b = none
  bsz : base.objs.size ≤ s.heap.objs.size
  funs : s.heap.FunFrames base outer
  frf : ∀ b ∈ frs outer, H b = none
  hok : HOk P w H s.heap
  bare : AllBare s.gens
/-- a call's end -/
def CE (outer : List Env) (P : Program) (w : World) (H : Hp) (s : Shared) (Q : VK) (u : Value) (s' : Shared) : Prop :=
  ∃ v H', s'.os = s.os ∧ AllBare s'.gens ∧ Un (frs outer) [] H H' s.heap s'.heap ∧ HOk P w H' s'.heap ∧ RelV v u ∧ Q v H'
def CR (CX : CXT) (outer : List Env) (P : Program) (w : World) (H : Hp) (s : Shared) (Q : VK) (E : XK) (r : Result) (s' : Shared) : Prop :=
  match r with
  | .ok (.ret u) => CE outer P w H s Q u s'
  | .ok _ => False
  | .error e => CX outer H s E e s'
structure FnOk (P : Program) (w : World) (K : PySem.W.Frag) (mg : Str → Option Value) (base : Heap) (CX : CXT) (k : Nat) (f : Addr) (fd : FuncData) (ps : List Str) (sp : Sp) : Prop where
  len : ∀ vs H Q E, sp vs H Q E → vs.length = ps.length
  run : ∀ (A : Around) (outer : List Env) (s : Shared) (H : Hp) (args : Args) (us : List Value) (vs : List V) (Q : VK) (E : XK), Room k A → Env0 P w K mg base A outer s H → BindsTo s fd args (ps.zip us) → Vals vs us → sp vs H Q E →
    codeAny (model P w) A (.call (.ref f) args) (CR CX outer P w H s Q E) s


section
variable {X : Cx} {pins : List (Addr × Obj)} {σ : St} {H : Hp} {s s' : Shared}
/-- from a body: what a callee wants -/
theorem Inv.env0 (I : Inv X pins σ H s) : Env0 X.prog X.w X.K X.mg X.base X.A X.stack s H :=
  ⟨I.ok.frames, I.ok.mod, I.bs, Nat.le_trans I.ok.bsz I.sz, I.stack, I.stkFree, I.hok, I.bare⟩
/-- behind a call -/
theorem Inv.after {Q : VK} {u : Value} (I : Inv X pins σ H s) (h : CE X.stack X.prog X.w H s Q u s') : EP X pins σ Q u s' := by
  obtain ⟨v, H', os, bare, un, hok, r, q⟩ := h
  obtain ⟨hh, g, d, t, os'⟩ := s'
  obtain rfl : os' = s.os := os
  exact ⟨v, H', I.call (h' := hh) (g' := g) (d' := d) (t' := t) (ch := []) un hok bare (fun b z => absurd z (by simp)), r, q⟩
end

/-! ### calls -/
/-- f(..): the written arguments, then the defaults dvs; E: what is wanted of an exception -/
def tCall (sp : Sp) (dvs : List V) (E : XK) (t : TA) : TE := fun σ H Q => t σ H fun vs H1 => sp (vs ++ dvs) H1 Q E

/-- how the parameters are bound: us the positional arguments, kw the keywords' values by name, ds the defaults that fill up -/
def Binds (K : PySem.W.Frag) (fd : FuncData) (ps : List Str) (ds : List Value) : Prop :=
  ∀ (s : Shared) (us : List Value), K.In s.heap → (us ++ ds).length = ps.length → BindsTo s fd ⟨us, []⟩ (ps.zip (us ++ ds))
/-- every parameter is given -/
theorem Binds.all {K : PySem.W.Frag} {fd : FuncData} {ps : List Str} (h : ∀ us : List Value, us.length = ps.length → bindArgs fd ⟨us, []⟩ = pure (ps.zip us)) : Binds K fd ps [] := fun s us _ hl => by
  rw [List.append_nil] at hl ⊢
  exact .of_eq (h us hl)

/-- an exception of a callee reaches what this body wants of exceptions -/
def Passes (CX : CXT) (X : Cx) (E : XK) : Prop := ∀ (pins : List (Addr × Obj)) (σ : St) (H : Hp) (s : Shared) (e : Value) (s' : Shared), Inv X pins σ H s → CX X.stack H s E e s' → X.xe e s'

section
variable {X : Cx} {CX : CXT} {k : Nat} {f C : Addr} {fd : FuncData} {ps : List Str} {sp : Sp} {dvs : List V} {ds : List Value} {E : XK} {x m : Str} {p pos apos : Pos} {e o : Expr} {es : List Expr} {ta : TE} {t : TA}

/-- the callee runs -/
theorem run_fn {pins : List (Addr × Obj)} {σ : St} {H : Hp} {s : Shared} {Q : VK} {us : List Value} {vs : List V} (F : FnOk X.prog X.w X.K X.mg X.base CX k f fd ps sp) (hr : Room k X.A) (hb : Binds X.K fd ps ds) (hd : Vals dvs ds) (hx : Passes CX X E)
    (I : Inv X pins σ H s) (r : Vals vs us) (h : sp (vs ++ dvs) H Q E) : wpAny (model X.prog X.w) X.A (call (.ref f) us) (EP X pins σ Q) X.xe s := by
  have r2 : Vals (vs ++ dvs) (us ++ ds) := r.append hd
  have hl : (us ++ ds).length = ps.length := by rw [← r2.length]; exact F.len _ _ _ _ h
  refine wpAny_call (codeAny_mono (F.run X.A X.stack s H ⟨us, []⟩ (us ++ ds) (vs ++ dvs) Q E hr I.env0 (hb s us I.kIn hl) r2 h) fun r s' hq => ?_)
  cases r with
  | error e => exact hx pins σ H s e s' I hq
  | ok fl =>
    cases fl with
    | ret u => exact I.after hq
    | next => exact False.elim hq
    | brk => exact False.elim hq
    | cont => exact False.elim hq

theorem pe_call (F : FnOk X.prog X.w X.K X.mg X.base CX k f fd ps sp) (hr : Room k X.A) (hg : Gl X x) (hm : X.mg x = some (.ref f)) (hk : PySem.W.keepIn X.K (.ref f) = true) (hb : Binds X.K fd ps ds) (hd : Vals dvs ds) (hx : Passes CX X E)
    (ha : PA X (e :: es) t) (hdb : (x == ("__debug__" : Str)) = false := by decide) (he : starEach (e :: es) X.env = (false, eval e X.env) :: starEach es X.env := by rfl) (hpl : (backTo pos (starEach es X.env)).any (·.1) = false := by rfl) :
    PE X (.Call (.Name x p) (e :: es) [] pos) (tCall sp dvs E t) := by
  intro pins s σ H Q I h
  refine wpAny_Call_Name_kw (ld_glob I hg hm ?_ hdb)
  refine PySem.W.callWith_K (h₀ := X.base) I.ok.mod.kin hk (thn (ha pos pins s σ H _ I h) fun us s1 ⟨vs, H1, I1, r, q⟩ => ⟨I1.kIn, ?_⟩) he hpl
  exact run_fn F hr hb hd hx I1 r q



end

/-! ### keywords -/
section
variable {X : Cx} {CX : CXT} {k : Nat} {f C : Addr} {fd : FuncData} {ps ks : List Str} {sp : Sp} {E : XK} {x m : Str} {p pos apos kpos : Pos} {e o : Expr} {es : List Expr} {kws : List Keyword} {te ta : TE} {t tk : TA} {nm : Option Str}

variable {g : List Value → List Value → List Value} {gV : List V → List V → List V}
end

/-! ### a def's body keeps its promise -/
/-- names: the parameters first -/
structure FnScope (N P : List Str) (sc : Scope) : Prop where
  kind : sc.kind = .function
  co : sc.isCoroutine = false
  gen : sc.isGenerator = false
  nd : N.Nodup
  pre : N.take P.length = P
  par : ∀ x ∈ P, sc.names.lookup x = some .local ∨ sc.names.lookup x = some .cell
  nofree : ∀ y ∈ sc.names, y.2 ≠ .free

theorem bindL_out {kindOf : Str → Option NameKind} {x : Str} : ∀ {binds : List (Str × Value)} {m : Str → Option Value}, (∀ v, (x, v) ∉ binds) → bindL kindOf binds m x = m x
  | [], _, _ => rfl
  | (n, v) :: r, m, h => by
    unfold bindL
    rw [bindL_out fun w hw => h w (List.mem_cons_of_mem _ hw)]
    split
    · have : x ≠ n := by rintro rfl; exact h v List.mem_cons_self
      simp [this]
    · rfl
theorem bindC_out {kindOf : Str → Option NameKind} {x : Str} : ∀ {binds : List (Str × Value)} {m : Str → Option Value}, (∀ v, (x, v) ∉ binds) → bindC kindOf binds m x = m x
  | [], _, _ => rfl
  | (n, v) :: r, m, h => by
    unfold bindC
    rw [bindC_out fun w hw => h w (List.mem_cons_of_mem _ hw)]
    split
    · rfl
    · have : x ≠ n := by rintro rfl; exact h v List.mem_cons_self
      simp [this]
theorem bindL_get {kindOf : Str → Option NameKind} {x : Str} {v : Value} : ∀ {P : List Str} {vs : List Value} {i : Nat} {m : Str → Option Value}, P.Nodup → P[i]? = some x → vs[i]? = some v → kindOf x = some .local →
    bindL kindOf (P.zip vs) m x = some v
  | [], _, _, _, _, h, _, _ => by simp at h
  | _ :: _, [], _, _, _, _, h, _ => by simp at h
  | p :: P, w :: vs, 0, m, nd, h1, h2, hk => by
    simp at h1 h2; subst h1; subst h2
    show bindL kindOf ((p, w) :: P.zip vs) m p = _
    unfold bindL
    rw [bindL_out fun v hv => (List.nodup_cons.mp nd).1 (List.of_mem_zip hv).1, if_pos hk]
    simp
  | p :: P, w :: vs, i + 1, m, nd, h1, h2, hk => by
    show bindL kindOf ((p, w) :: P.zip vs) m x = _
    unfold bindL
    exact bindL_get (i := i) (List.nodup_cons.mp nd).2 (by simpa using h1) (by simpa using h2) hk
theorem bindC_get {kindOf : Str → Option NameKind} {x : Str} {v : Value} : ∀ {P : List Str} {vs : List Value} {i : Nat} {m : Str → Option Value}, P.Nodup → P[i]? = some x → vs[i]? = some v → kindOf x ≠ some .local →
    bindC kindOf (P.zip vs) m x = some v
  | [], _, _, _, _, h, _, _ => by simp at h
  | _ :: _, [], _, _, _, _, h, _ => by simp at h
  | p :: P, w :: vs, 0, m, nd, h1, h2, hk => by
    simp at h1 h2; subst h1; subst h2
    show bindC kindOf ((p, w) :: P.zip vs) m p = _
    unfold bindC
    rw [bindC_out fun v hv => (List.nodup_cons.mp nd).1 (List.of_mem_zip hv).1, if_neg hk]
    simp
  | p :: P, w :: vs, i + 1, m, nd, h1, h2, hk => by
    show bindC kindOf ((p, w) :: P.zip vs) m x = _
    unfold bindC
    exact bindC_get (i := i) (List.nodup_cons.mp nd).2 (by simpa using h1) (by simpa using h2) hk

/-- the names' values at the entry -/
def start (N : List Str) (vs : List V) : St := vs.map some ++ List.replicate (N.length - vs.length) none

/-- the context of a def's body, at its entry; an exception leaves the frame, then lies as CX says -/
def cxOf (CX : CXT) (P : Program) (w : World) (K : PySem.W.Frag) (mg : Str → Option Value) (base : Heap) (N : List Str) (qual : Str) (scope : Scope) (f : Addr) (cd : Value) (A : Around) (outer : List Env) (s : Shared) (H : Hp) (E : XK) : Cx where
  prog := P
  w := w
  K := K
  mg := mg
  base := base
  A := A.deeper (envOfC qual scope s.heap.objs.size f cd)
  N := N
  s_0 := s
  H_0 := H
  env := envOfC qual scope s.heap.objs.size f cd
  outer := outer
  stack := envOfC qual scope s.heap.objs.size f cd :: outer
  ex := []
  calm := true
  fn := fun _ => true
  pn := []
  xe := fun e s' => wpAny (model P w) (A.deeper (envOfC qual scope s.heap.objs.size f cd)) (leaving (envOfC qual scope s.heap.objs.size f cd) e) (fun _ s'' => CX outer H s E e s'') (fun e' s'' => CX outer H s E e' s'') s'

theorem cell_has {sc : Scope} {n : Nat} {x : Str} (h : sc.names.lookup x = some .cell) : ∃ c, (cellsFrom n sc.names []).lookup x = some c := by
  have q := PySem.W.cellsFrom_some sc.names n [] (.inl h)
  exact Option.isSome_iff_exists.mp q

theorem inv_start {CX : CXT} {P : Program} {w : World} {K : PySem.W.Frag} {mg : Str → Option Value} {base : Heap} {N ps : List Str} {qual : Str} {scope : Scope} {f : Addr} {cd : Value} {A : Around} {outer : List Env} {s s1 : Shared} {H : Hp} {E : XK} {us : List Value} {vs : List V}
    (S : FnScope N ps scope) (hd : A.handled = none) (e0 : Env0 P w K mg base A outer s H) (hl : vs.length = ps.length) (r : Vals vs us)
    (x : InCallC s s.heap.objs.size (bindL (envOfC qual scope s.heap.objs.size f cd).kindOf (ps.zip us) fun _ => none) (cellsFrom (s.heap.objs.size + 1) scope.names []) (bindC (envOfC qual scope s.heap.objs.size f cd).kindOf (ps.zip us) fun _ => none) s1) :
    Inv (cxOf CX P w K mg base N qual scope f cd A outer s H E) [] (start N vs) H s1 := by
  have hpl : ps.length ≤ N.length := by have := congrArg List.length S.pre; rw [List.length_take] at this; omega
  obtain ⟨h1, tk, rfl, hk⟩ := x.done
  have noA : ∀ b : Addr, b ∉ (cxOf CX P w K mg base N qual scope f cd A outer s H E).ex := fun b z => absurd (show b ∈ ([] : List Addr) from z) (by simp)
  refine ⟨⟨e0.mod, S.kind, rfl, rfl, Nat.le_refl _, fun y z c h1 h2 => ?_, fun y hy => ?_, fun y c _ h => ?_, fun _ => hd, Around.frames_deeper e0.frames, .inr ⟨rfl, rfl⟩, fun b z => absurd z (noA b), e0.bs, e0.bsz, fun b _ _ => noA b, fun b z => absurd z (noA b), e0.funs, e0.frf⟩,
    rfl, e0.bare, Un.kept hk, ⟨_, x.toInCall.ns, fun i y v h1 h2 h3 => ?_⟩, fun y c h => ⟨_, x.cell y c h⟩, e0.hok.fresh (Nat.le_refl _), fun y c h => ?_, fun p hp => absurd (show p ∈ ([] : List (Addr × Obj)) from hp) (by simp), e0.hok.kept hk, ?_⟩
  · exact name_of_addr x.apart (PySem.mem_of_lookup h1) (PySem.mem_of_lookup h2)
  · have hy : scope.names.lookup y = some .cell ∨ scope.names.lookup y = some .free := hy
    rcases hy with hy | hy
    · exact cell_has hy
    · exact absurd rfl (S.nofree _ (PySem.mem_of_lookup hy))
  · exact Nat.le_of_lt (x.above y c (PySem.mem_of_lookup h))
  · have hi : i < vs.length := by
      unfold start at h2
      by_cases hi : i < vs.length
      · exact hi
      · rw [List.getElem?_append_right (by simpa using hi)] at h2
        rw [List.getElem?_replicate] at h2
        split at h2 <;> cases h2
    have ha : vs[i]? = some v := by
      unfold start at h2
      rw [List.getElem?_append_left (by simpa using hi), List.getElem?_map] at h2
      cases e : vs[i]? with
      | none => rw [e] at h2; cases h2
      | some a => rw [e] at h2; cases h2; rfl
    obtain ⟨u, hu, rv⟩ := r.get ha
    have hp : ps[i]? = some y := by
      rw [← S.pre, List.getElem?_take_of_lt (by omega)]; exact h1
    have ndP : ps.Nodup := by rw [← S.pre]; exact S.nd.sublist (List.take_sublist _ _)
    refine ⟨u, rv, ?_⟩
    rcases S.par y (List.mem_of_getElem? hp) with k | k
    · exact .inl ⟨k, bindL_get ndP hp hu k⟩
    · obtain ⟨c, e⟩ := cell_has (n := s.heap.objs.size + 1) k
      refine .inr ⟨.inl k, c, e, ?_⟩
      have q := x.cell y c e
      rw [bindC_get ndP hp hu (by show scope.names.lookup y ≠ _; rw [k]; decide)] at q
      exact q
  · exact e0.hok.fresh (Nat.le_of_lt (x.above y c (PySem.mem_of_lookup h)))
  · unfold start
    show _ = N.length
    rw [List.length_append, List.length_map, List.length_replicate]
    omega

/-- THE RULE: a def (or a method) of the text, by its body. The body's reading t is chosen for each entry; it is run at the parameters' values -/
theorem fn_of {CX : CXT} {P : Program} {w : World} {K : PySem.W.Frag} {mg : Str → Option Value} {base : Heap} {k : Nat} {f : Addr} {name qual : Str} {params : Arguments} {body : List Stmt} {scope : Scope} {dV kV doc pm cdv ct oc : Value} {an od : Option Addr}
    {osl : Array (Option Value)} {N ps : List Str} {sp : Sp} (lk : K.lookup f = some ⟨oc, od, .func (PySem.W.fnOf name qual params body scope dV kV doc pm an cdv ct), osl⟩) (hcd : PySem.W.codeIn K cdv qual = true) (S : FnScope N ps scope)
    (len : ∀ vs H Q E, sp vs H Q E → vs.length = ps.length)
    (hbody : ∀ (A : Around) (outer : List Env) (s : Shared) (H : Hp) (vs : List V) (Q : VK) (E : XK), Room k (A.deeper (envOfC qual scope s.heap.objs.size f cdv)) → sp vs H Q E →
      ∃ t, PSs (cxOf CX P w K mg base N qual scope f cdv A outer s H E) body t ∧ t { nx := fun _ H' => Q .non H', rt := Q } (start N vs) H) :
    FnOk P w K mg base CX (k + 1) f (PySem.W.fnOf name qual params body scope dV kV doc pm an cdv ct) ps sp := by
  refine ⟨len, fun A outer s H args us vs Q E hr e0 hb r hsp => ?_⟩
  have hl := len _ _ _ _ hsp
  have KX : K.In s.heap := e0.mod.kin.keeps fun b o e => (e0.bs b o e).1
  have lim : s.heap.NoLimit := e0.mod.nolimit.keeps fun b o e => (e0.bs b o e).1
  have hkind : ∀ y ∈ ps.zip us, scope.names.lookup y.1 = some .local ∨ (scope.names.lookup y.1 = some .cell ∧ ((cellsFrom (s.heap.objs.size + 1) scope.names []).lookup y.1).isSome = true) := fun ⟨n, v⟩ hy => by
    rcases S.par n (List.of_mem_zip hy).1 with q | q
    · exact .inl q
    · exact .inr ⟨q, PySem.W.cellsFrom_some _ _ _ (.inl q)⟩
  refine codeAny_call_function hr.depth (KX _ _ lk) rfl S.co S.gen rfl (PySem.W.codeRec_of KX hcd) (hb _ _ _ _ ?_)
  refine wpAny_newFunctionEnv_cells S.kind hkind fun env he s1 x => ?_
  subst he
  refine ⟨lim.keeps x.toInCall.keep, codeAny_func ?_⟩
  obtain ⟨t, ht, hq⟩ := hbody A outer s H vs Q E (hr.deeper _) hsp
  have I : Inv (cxOf CX P w K mg base N qual scope f cdv A outer s H E) [] (start N vs) H s1 := inv_start S hr.hd e0 hl r x
  refine wpAny_mono (ht [] s1 (start N vs) H _ I hq) (fun fl s' hs => ?_) fun e s' hs => hs
  have fin : ∀ {σ' : St} {H' : Hp} {v : V} {u : Value}, Inv (cxOf CX P w K mg base N qual scope f cdv A outer s H E) [] σ' H' s' → RelV v u → Q v H' → CE outer P w H s Q u s' :=
    fun {σ' H' v u} J rv q => ⟨v, H', J.os, J.bare, J.base, J.hok, rv, q⟩
  cases fl with
  | ret u =>
    obtain ⟨v, σ', H', J, rv, q⟩ := hs
    exact fin J rv q
  | next =>
    obtain ⟨σ', H', J, q⟩ := hs
    exact fin (v := V.non) (u := Value.none) J rfl q
  | brk =>
    obtain ⟨_, _, _, q⟩ := hs
    exact False.elim q
  | cont =>
    obtain ⟨_, _, _, q⟩ := hs
    exact False.elim q
end L2

namespace L2
open PySem PySem.Spec PyProof.Rows
section
variable {X : Cx} {x : Str} {p pos : Pos} {e : Expr} {es : List Expr} {t : TA} {id T : String} {r : List V → Hp → VK → Prop}

def tCB (r : List V → Hp → VK → Prop) (t : TA) : TE := fun σ H Q => t σ H fun vs H1 => r vs H1 Q
/-- f(e, ..), f a built-in function -/
theorem pe_callB (hc : CallR X (.builtin id) r) (hg : Gl X x) (hm : X.mg x = none) (hv : bootBuiltins x = some (.builtin id)) (ha : PA X (e :: es) t) (hn : x ≠ "__name__" := by decide) (hdb : (x == ("__debug__" : Str)) = false := by decide)
    (he : starEach (e :: es) X.env = (false, eval e X.env) :: starEach es X.env := by rfl) (hpl : (backTo pos (starEach es X.env)).any (·.1) = false := by rfl) : PE X (.Call (.Name x p) (e :: es) [] pos) (tCB r t) := by
  intro pins s σ H Q I h
  refine wpAny_Call_Name_kw (ld_blt I hg hm hv ?_ hn hdb)
  exact PyProof.Rows.callWith_builtin1 (thn (ha pos pins s σ H _ I h) fun us s1 ⟨vs, H1, I1, r1, q1⟩ => hc pins s1 σ H1 vs us Q I1 r1 q1) he hpl
/-- T(e, ..), T a built-in type -/
theorem pe_callTy (hc : CallR X (.type T) r) (hg : Gl X x) (hm : X.mg x = none) (hv : bootBuiltins x = some (.type T)) (ha : PA X (e :: es) t) (hn : x ≠ "__name__" := by decide) (hdb : (x == ("__debug__" : Str)) = false := by decide)
    (he : starEach (e :: es) X.env = (false, eval e X.env) :: starEach es X.env := by rfl) (hpl : (backTo pos (starEach es X.env)).any (·.1) = false := by rfl) : PE X (.Call (.Name x p) (e :: es) [] pos) (tCB r t) := by
  intro pins s σ H Q I h
  refine wpAny_Call_Name_kw (ld_blt I hg hm hv ?_ hn hdb)
  exact PyProof.Rows.callWith_type1 (thn (ha pos pins s σ H _ I h) fun us s1 ⟨vs, H1, I1, r1, q1⟩ => hc pins s1 σ H1 vs us Q I1 r1 q1) he hpl
end
end L2

namespace HT
open PySem PyProof.Rows



section
open PySem.SeqAt
open PySem.AutoSeq1 (wpAny_loadPart')
open PySem.MeetsSeq PySem.MeetsSeq2 PySem.MeetsSeq3

end

section
variable {prog : Program} {w : World} {A : Around} {E : Value → Shared → Prop} {s : Shared}



/-! ### t[a:b], not the whole -/
/-- a slice's bound as a place among n (d where it is left out) -/
def sIx (n d : Nat) : Option Int → Nat
  | none => d
  | some v => if v < 0 then (v + (n : Int)).toNat else min v.toNat n

end
end HT

namespace L2
open PySem PySem.Spec PyProof.Rows

/-! ### the parts of a slice -/
abbrev TO := St → Hp → (Option Int → Hp → Prop) → Prop
def tNoPart : TO := fun _ H Q => Q none H
def tPart (t : TE) : TO := fun σ H Q => t σ H fun x H1 => ∃ i, x = .int i ∧ Q (some i) H1


section
variable {X : Cx} {e : Expr} {te : TE} {lo hi : Option Expr} {tl th : TO} {pos p2 : Pos}


def tSl (r : V → Option Int → Option Int → Hp → VK → Prop) (te : TE) (tl th : TO) : TE := fun σ H Q => te σ H fun x H1 => tl σ H1 fun l H2 => th σ H2 fun u H3 => r x l u H3 Q

/-- the items of xs[lo:hi] -/
def cutV (xs : List V) (lo hi : Option Int) : List V := (xs.drop (HT.sIx xs.length 0 lo)).take (HT.sIx xs.length xs.length hi - HT.sIx xs.length 0 lo)

/-! ### t < u, t + u -/
end
end L2

namespace L2
open PySem PySem.Spec PyProof.Rows

/-! ### places -/
/-- the place that an index of any sign means -/
def ixN (n : Nat) (i : Int) : Option Nat := if 0 ≤ i then (if i < n then some i.toNat else none) else if -(n : Int) ≤ i then some (i + n).toNat else none
def atI {α : Type} (xs : List α) (i : Int) : Option α := (ixN xs.length i).bind fun j => xs[j]?
theorem atI_nat {α : Type} {xs : List α} {j : Nat} {v : α} (h : xs[j]? = some v) : atI xs (j : Int) = some v := by
  have hj : j < xs.length := (List.getElem?_eq_some_iff.mp h).1
  have e : ixN xs.length (j : Int) = some j := by
    unfold ixN
    rw [if_pos (by omega), if_pos (by omega)]; simp
  unfold atI; rw [e]; exact h

/-! ### what may be subscripted -/
/-- a call of a builtin's method by values: the receiver, the arguments -/
def MtR (X : Cx) (id : String) (r : V → List V → Hp → VK → Prop) : Prop :=
  ∀ (pins : List (Addr × Obj)) (s : Shared) (σ : St) (H : Hp) (x : V) (xs : List V) (v : Value) (us : List Value) (Q : VK), Inv X pins σ H s → RelV x v → Vals xs us → r x xs H Q →
    wpAny (model X.prog X.w) X.A (call (.builtin id) (v :: us)) (EP X pins σ Q) X.xe s
section
variable {X : Cx} {a b : Expr} {ta tb : TE} {pos : Pos}

def rIxL (K : PySem.W.Frag) : R2 := fun x y H Q => ∃ p xs i v, x = .ref p ∧ y = .int i ∧ SqL K H p xs ∧ atI xs i = some v ∧ Q v H

/-! ### xs[i] = v, any sign -/

/-! ### slices -/
/-- xs[lo:hi] of a list: a new list -/
def rSlL (K : PySem.W.Frag) : V → Option Int → Option Int → Hp → VK → Prop := fun x lo hi H Q => ∃ a xs, x = .ref a ∧ SqL K H a xs ∧ ∀ p, H p = none → Q (.ref p) (upd H p (.lst (cutV xs lo hi)))

/-! ### in, not in: flat items -/
def flatV : V → Bool
  | .non => true
  | .bl _ => true
  | .int _ => true
  | .str _ => true
  | _ => false
/-- == of flat values -/
def eqV : V → V → Bool
  | .non, .non => true
  | .bl a, .bl b => a == b
  | .bl a, .int b => (if a then 1 else 0) == b
  | .int a, .bl b => a == (if b then 1 else 0)
  | .int a, .int b => a == b
  | .str a, .str b => a == b
  | _, _ => false
theorem eqAt_V {A : Around} {s : Shared} {y x : V} {u v : Value} (ry : RelV y u) (rx : RelV x v) (fy : flatV y = true) (fx : flatV x = true) : SeqAt.EqAt A s u v (eqV y x) := by
  cases y with
  | non =>
    cases ry
    cases x with
    | non => cases rx; exact SeqAt.EqAt.same _
    | bl b => cases rx; exact SeqAt.EqAt.none_bool b
    | int b => obtain ⟨t, rfl⟩ := rx; exact SeqAt.EqAt.none_int b t
    | str b => obtain ⟨t, rfl⟩ := rx; exact SeqAt.EqAt.none_str b t
    | _ => exact absurd (show false = true from fx) Bool.false_ne_true
  | bl a =>
    cases ry
    cases x with
    | non => cases rx; exact SeqAt.EqAt.bool_none a
    | bl b => cases rx; exact SeqAt.EqAt.bool_bool a b
    | int b => obtain ⟨t, rfl⟩ := rx; exact SeqAt.EqAt.bool_int a b t
    | str b => obtain ⟨t, rfl⟩ := rx; exact SeqAt.EqAt.bool_str a b t
    | _ => exact absurd (show false = true from fx) Bool.false_ne_true
  | int a =>
    obtain ⟨t', rfl⟩ := ry
    cases x with
    | non => cases rx; exact SeqAt.EqAt.int_none a t'
    | bl b => cases rx; exact SeqAt.EqAt.int_bool a t' b
    | int b => obtain ⟨t, rfl⟩ := rx; exact SeqAt.EqAt.int_int a t' b t
    | str b => obtain ⟨t, rfl⟩ := rx; exact SeqAt.EqAt.int_str a t' b t
    | _ => exact absurd (show false = true from fx) Bool.false_ne_true
  | str a =>
    obtain ⟨t', rfl⟩ := ry
    cases x with
    | non => cases rx; exact SeqAt.EqAt.str_none a t'
    | bl b => cases rx; exact SeqAt.EqAt.str_bool a t' b
    | int b => obtain ⟨t, rfl⟩ := rx; exact SeqAt.EqAt.str_int a t' b t
    | str b => obtain ⟨t, rfl⟩ := rx; exact SeqAt.EqAt.str_str a t' b t
    | _ => exact absurd (show false = true from fx) Bool.false_ne_true
  | _ => exact absurd (show false = true from fy) Bool.false_ne_true
/-- the items' answers, read off the values (a value's own answer does not lean on its token) -/
def eqU (x : V) (u : Value) : Bool := match u with
  | .none => eqV .non x
  | .bool b => eqV (.bl b) x
  | .int i _ => eqV (.int i) x
  | .str z _ => eqV (.str z) x
  | _ => false
theorem eqU_of {x y : V} {u : Value} (r : RelV y u) (f : flatV y = true) : eqU x u = eqV y x := by
  cases y with
  | non => cases r; rfl
  | bl b => cases r; rfl
  | int i => obtain ⟨t, rfl⟩ := r; rfl
  | str z => obtain ⟨t, rfl⟩ := r; rfl
  | _ => exact absurd (show false = true from f) Bool.false_ne_true
theorem any_eqU {x : V} : ∀ {xs : List V} {us : List Value}, Vals xs us → xs.all flatV = true → us.any (eqU x) = xs.any fun y => eqV y x
  | _, _, .nil, _ => rfl
  | y :: xs, u :: us, .cons r t, f => by
    rw [List.all_cons, Bool.and_eq_true] at f
    rw [List.any_cons, List.any_cons, eqU_of r f.1, any_eqU t f.2]
theorem mem_eqAt {A : Around} {s : Shared} {x : V} {v : Value} (rx : RelV x v) (fx : flatV x = true) : ∀ {xs : List V} {us : List Value}, Vals xs us → xs.all flatV = true → ∀ u ∈ us, SeqAt.EqAt A s u v (eqU x u)
  | _, _, .nil, _ => fun u hu => by cases hu
  | y :: xs, u :: us, .cons r t, f => fun u' hu => by
    rw [List.all_cons, Bool.and_eq_true] at f
    rcases List.mem_cons.mp hu with rfl | hu
    · rw [eqU_of r f.1]; exact eqAt_V r rx f.1 fx
    · exact mem_eqAt rx fx t f.2 u' hu
def inV (x : V) (xs : List V) : Bool := xs.any fun y => eqV y x
/-- x in a list or tuple of flat items -/
def rIn (K : PySem.W.Frag) (neg : Bool) : R2 := fun x y H Q => ∃ p xs, y = .ref p ∧ (SqL K H p xs ∨ SqT K H p xs) ∧ flatV x = true ∧ xs.all flatV = true ∧ Q (.bl (if neg then !inV x xs else inV x xs)) H
theorem op_in_seq : OpR X (compareOp .In) (rIn X.K false) := by
  intro pins s σ H x y v u Q I rx ry h
  obtain ⟨p, xs, rfl, hq, fx, fs, q⟩ := h
  cases ry
  rcases hq with hq | hq
  · obtain ⟨its, r, pl, hz⟩ := I.list hq
    refine SeqAt.in_listAt (eqU x) pl.isList (fun w hw => mem_eqAt rx fx r fs w (by simpa using hw)) ⟨.bl _, H, I, rfl, ?_⟩
    rw [show its.toArray.any (eqU x) = its.any (eqU x) by simp, any_eqU r fs]
    exact q
  · obtain ⟨its, r, pl, hz⟩ := I.tuple hq
    refine SeqAt.in_tupleAt (eqU x) pl (fun w hw => mem_eqAt rx fx r fs w (by simpa using hw)) ⟨.bl _, H, I, rfl, ?_⟩
    rw [show its.toArray.any (eqU x) = its.any (eqU x) by simp, any_eqU r fs]
    exact q
theorem op_notIn_seq : OpR X (compareOp .NotIn) (rIn X.K true) := by
  intro pins s σ H x y v u Q I rx ry h
  obtain ⟨p, xs, rfl, hq, fx, fs, q⟩ := h
  cases ry
  rcases hq with hq | hq
  · obtain ⟨its, r, pl, hz⟩ := I.list hq
    refine SeqAt.notIn_listAt (eqU x) pl.isList (fun w hw => mem_eqAt rx fx r fs w (by simpa using hw)) ⟨.bl _, H, I, rfl, ?_⟩
    rw [show its.toArray.any (eqU x) = its.any (eqU x) by simp, any_eqU r fs]
    exact q
  · obtain ⟨its, r, pl, hz⟩ := I.tuple hq
    refine SeqAt.notIn_tupleAt (eqU x) pl (fun w hw => mem_eqAt rx fx r fs w (by simpa using hw)) ⟨.bl _, H, I, rfl, ?_⟩
    rw [show its.toArray.any (eqU x) = its.any (eqU x) by simp, any_eqU r fs]
    exact q

/-! ### len, list(x), tuple(x) of any list or tuple that is read -/
theorem call_len_seq : CallR X (.builtin "len") (fun xs H Q => ∃ p ys, xs = [.ref p] ∧ (SqL X.K H p ys ∨ SqT X.K H p ys) ∧ Q (.int ys.length) H) := by
  intro pins s σ H xs us Q I r h
  obtain ⟨p, ys, rfl, hq, q⟩ := h
  obtain ⟨u, rfl, rx⟩ := vals1 r
  cases rx
  have hn := line63
  rcases hq with hq | hq
  · obtain ⟨its, r', pl, hz⟩ := I.list hq
    have hlen := r'.length
    exact Calls.call_len_list pl.isList (by simp only [List.size_toArray] <;> omega) ⟨.int ys.length, H, I.tok _, ⟨s.toks + 1, by rw [List.size_toArray, hlen]⟩, q⟩
  · obtain ⟨its, r', pl, hz⟩ := I.tuple hq
    have hlen := r'.length
    exact len_tuple pl (by simp only [List.size_toArray] <;> omega) ⟨.int ys.length, H, I.tok _, ⟨s.toks + 1, by rw [List.size_toArray, hlen]⟩, q⟩
theorem call_list_of : CallR X (.type "list") (fun xs H Q => ∃ p ys, xs = [.ref p] ∧ (SqL X.K H p ys ∨ SqT X.K H p ys) ∧ ∀ l, H l = none → Q (.ref l) (upd H l (.lst ys))) := by
  intro pins s σ H xs us Q I r h
  obtain ⟨p, ys, rfl, hq, q⟩ := h
  obtain ⟨u, rfl, rx⟩ := vals1 r
  cases rx
  have fin : ∀ (its : List Value), Vals ys its → ys.length ≤ sizeLine → ∀ (h' : Heap) (c' : Nat), (∀ b o', s.heap.get? b = some o' → h'.get? b = some o') →
      h'.get? s.heap.objs.size = some { cls := .type "list", dict := none, data := .seq its.toArray c', slots := #[] } → EP X pins σ Q (.ref s.heap.objs.size) { s with heap := h' } := fun its r' hz h' c' kp e =>
    ⟨.ref s.heap.objs.size, _, I.laid (t' := s.toks) kp (Nat.le_refl _) (show ObjOk X.prog X.w _ h' _ (.lst ys) from ⟨hz, its, c', r', e⟩), rfl, q _ (I.hok.fresh (Nat.le_refl _))⟩
  rcases hq with hq | hq
  · obtain ⟨its, r', pl, hz⟩ := I.list hq
    have hlen := r'.length
    obtain ⟨o, ho, hc, n, hd⟩ := pl.isList
    exact call_list_seq p (.inl rfl) ho hc hd (fun h' c' kp e => fin its r' hz h' c' kp e) (by simp only [List.size_toArray] <;> omega)
  · obtain ⟨its, r', pl, hz⟩ := I.tuple hq
    have hlen := r'.length
    obtain ⟨o, ho, hc, n, hd⟩ := pl
    exact call_list_seq p (.inr rfl) ho hc hd (fun h' c' kp e => fin its r' hz h' c' kp e) (by simp only [List.size_toArray] <;> omega)

/-! ### the call of a builtin's method: o.m(..) -/
/-- the value is of that builtin type -/
def tyV (K : PySem.W.Frag) (T : String) (x : V) (H : Hp) : Prop := match x with
  | .str _ => T = "str"
  | .int _ => T = "int"
  | .ref p => (T = "list" ∧ ∃ xs, SqL K H p xs) ∨ (T = "tuple" ∧ ∃ o, K.lookup p = some o ∧ o.cls = .type "tuple" ∧ o.dict = none) ∨
      (T = "dict" ∧ ((∃ kvs, H p = some (.dK kvs)) ∨ ∃ kvs, H p = some (.dT kvs))) ∨ (T = "set" ∧ ∃ S n, H p = some (.set S n))
  | _ => False
theorem tyV_is {pins : List (Addr × Obj)} {σ : St} {H : Hp} {s : Shared} {T : String} {x : V} {v : Value} (I : Inv X pins σ H s) (r : RelV x v) (ty : tyV X.K T x H) :
    s.TypeIs v T ∧ ∀ a, v = .ref a → ∃ ob, s.heap.get? a = some ob ∧ ob.dict = none := by
  cases x with
  | str z =>
    obtain ⟨t, rfl⟩ := r
    cases (show T = "str" from ty)
    exact ⟨typeIs_str s z t, fun _ e => nomatch e⟩
  | int i =>
    obtain ⟨t, rfl⟩ := r
    cases (show T = "int" from ty)
    exact ⟨typeIs_int s i t, fun _ e => nomatch e⟩
  | ref p =>
    cases r
    rcases ty with ⟨rfl, xs, hq⟩ | ⟨rfl, o, hk, hc, hd⟩ | ⟨rfl, hk⟩ | ⟨rfl, S, n, hk⟩
    · obtain ⟨its, _, pl, _⟩ := I.list hq
      refine ⟨pl.isList.typeIs, fun a e => ?_⟩
      cases e
      obtain ⟨o, n, e, c, hd, _⟩ := pl
      exact ⟨o, e, hd⟩
    · refine ⟨⟨o, I.kIn p o hk, hc⟩, fun a e => ?_⟩
      cases e
      exact ⟨o, I.kIn _ o hk, hd⟩
    · have z : ∃ o, s.heap.get? p = some o ∧ o.ExactDict := by
        rcases hk with ⟨kvs, hk⟩ | ⟨kvs, hk⟩
        · obtain ⟨_, _, _, _, o, _, _, e, ex, _⟩ := I.hok p _ hk
          exact ⟨o, e, ex⟩
        · obtain ⟨_, _, _, _, o, _, _, e, ex, _⟩ := I.hok p _ hk
          exact ⟨o, e, ex⟩
      obtain ⟨o, e, ex⟩ := z
      refine ⟨⟨o, e, ex.1⟩, fun a e2 => ?_⟩
      cases e2
      exact ⟨o, e, ex.2.1⟩
    · obtain ⟨o, _, _, _, e, ex, _⟩ := I.hok p _ hk
      refine ⟨⟨o, e, ex.1⟩, fun a e2 => ?_⟩
      cases e2
      exact ⟨o, e, ex.2.1⟩
  | _ => exact False.elim ty
def tBM0 (K : PySem.W.Frag) (T : String) (r : V → List V → Hp → VK → Prop) (to : TE) : TE := fun σ H Q => to σ H fun x H1 => tyV K T x H1 ∧ r x [] H1 Q
def tBM (K : PySem.W.Frag) (T : String) (r : V → List V → Hp → VK → Prop) (to : TE) (t : TA) : TE := fun σ H Q => to σ H fun x H1 => tyV K T x H1 ∧ t σ H1 fun xs H2 => r x xs H2 Q
variable {o e : Expr} {es : List Expr} {to : TE} {t : TA} {name : Str} {apos cpos : Pos} {T id : String} {r : V → List V → Hp → VK → Prop}
theorem pe_bm (pa : PlainAttrs T) (slot : Slot T name id) (hty : typeOf (.builtin id) = pure (.type "method_descriptor")) (hm : MtR X id r) (ho : PE X o to) (ha : PA X (e :: es) t)
    (hbase : attributeBase o name X.env (eval o X.env) = eval o X.env := by rfl)
    (hfew : ((backTo cpos (starEach (e :: es) X.env)).all (fun x => !x.1) && (backToKw cpos (keywordEach [] X.env)).all (fun x => x.1.isSome)
      && decide ((e :: es).length + ([] : List Keyword).length + (if ([] : List Keyword).isEmpty then 0 else 1) < 30)) = true := by rfl)
    (hline : (apos.endLine == cpos.line) = true := by rfl) (hs : starEach (e :: es) X.env = (false, eval e X.env) :: starEach es X.env := by rfl) (hplain : (backTo cpos (starEach es X.env)).any (·.1) = false := by rfl) :
    PE X (.Call (.Attribute o name apos) (e :: es) [] cpos) (tBM X.K T r to t) := by
  intro pins s σ H Q I h
  refine wpAny_Call_method_late hbase hfew hline rfl (thn (ho pins s σ H _ I h) fun v s1 ⟨x, H1, I1, r1, ty, q1⟩ => ?_)
  obtain ⟨h1, h2⟩ := tyV_is I1 r1 ty
  refine ⟨T, id, pa, slot, hty, h1, h2, ?_⟩
  have hA := ha cpos pins s1 σ H1 _ I1 q1
  rw [hs] at hA ⊢
  refine Calls.callWith_builtin (by show (false || (backTo cpos (starEach es X.env)).any (·.1)) = false; rw [hplain] <;> rfl) (Calls.evalArgs_plain ?_)
  exact thn hA fun us s2 ⟨vs, H2, I2, r2, q2⟩ => hm pins s2 σ H2 x vs v us Q I2 r1 r2 q2
/- xs.append(e), list.index on a module's tuple .. are MtR facts of 06m -/
end
end L2

namespace L2
open PySem PySem.Spec PyProof.Rows

def MtM (X : Cx) (id : String) (r : V → List V → Hp → VK → Prop) : Prop :=
  ∀ (pins : List (Addr × Obj)) (s : Shared) (σ : St) (H : Hp) (x : V) (xs : List V) (v : Value) (us : List Value) (Q : VK), Inv X pins σ H s → RelV x v → Vals xs us → r x xs H Q →
    wpAny (model X.prog X.w) X.A (call (.builtin id) (v :: us)) (EP X pins σ Q) X.xe s

/-! ### lists of values -/
theorem Vals.one : ∀ {x : V} {us : List Value}, Vals [x] us → ∃ u, us = [u] ∧ RelV x u
  | _, _, .cons r .nil => ⟨_, rfl, r⟩

section
variable {X : Cx} {pins : List (Addr × Obj)} {σ : St} {H : Hp} {s : Shared} {l b : Addr} {xs ys zs : List V}

/-! ### the two steps: a tracked list is rewritten, a new list is laid -/
theorem Inv.lset {its its' : List Value} {n : Nat} {f : Array Value → Array Value} {t' : Nat} (I : Inv X pins σ H s) (hH : H l = some (.lst xs))
    (e : s.heap.get? l = some { cls := .type "list", data := .seq its.toArray n }) (hf : f its.toArray = its'.toArray) (hv : Vals ys its') (hz : ys.length ≤ sizeLine) :
    Inv X pins σ (upd H l (.lst ys)) { s with heap := s.heap.update l (Obj.mapSeq f), toks := t' } := by
  have q := PySem.IsL.update e f
  rw [hf] at q
  refine I.write (x := l) (e := l) (by rw [hH]; exact trivial) (.inl rfl) (fun b' u hb hu => (Heap.get?_update_other s.heap (Obj.mapSeq f) (Ne.symm hb)).trans hu) ⟨_, q⟩ ?_
  exact ⟨hz, its', _, hv, q⟩
theorem Inv.lnew {its : List Value} {t' : Nat} (I : Inv X pins σ H s) (hv : Vals ys its) (hz : ys.length ≤ sizeLine) :
    Inv X pins σ (upd H s.heap.objs.size (.lst ys)) { s with heap := s.heap.push { cls := .type "list", data := .seq its.toArray }, toks := t' } :=
  I.laid (fun _ _ q => Heap.get?_push_of_some _ q) (Nat.le_refl _) ⟨hz, its, 0, hv, Heap.get?_push_size _ rfl⟩
theorem Inv.fresh (I : Inv X pins σ H s) : H s.heap.objs.size = none := I.hok.fresh (Nat.le_refl _)
theorem Inv.lstM (I : Inv X pins σ H s) (hH : H l = some (.lst xs)) : xs.length ≤ sizeLine ∧ ∃ (its : List Value) (n : Nat), Vals xs its ∧ xs.length = its.length ∧ s.heap.get? l = some { cls := .type "list", data := .seq its.toArray n } := by
  obtain ⟨z, its, n, r, e⟩ := I.hok l _ hH
  exact ⟨z, its, n, r, r.length, e⟩

end

section
variable {X : Cx}

/-! ### methods -/
def rAppend : V → List V → Hp → VK → Prop := fun x vs H Q => ∃ l xs y, x = .ref l ∧ vs = [y] ∧ H l = some (.lst xs) ∧ xs.length < sizeLine ∧ Q .non (upd H l (.lst (xs ++ [y])))
theorem mt_append : MtM X "list.append" rAppend := by
  intro pins s σ H x vs v us Q I rx rv h
  obtain ⟨l, xs, y, rfl, rfl, hH, hz, q⟩ := h
  cases rx
  obtain ⟨u, rfl, ru⟩ := rv.one
  obtain ⟨z, its, n, r, hl, e⟩ := I.lstM hH
  refine call_meets F.slot_list_append ⟨_, e, rfl⟩ F.entry_list_append (F.args_list_append_2 _ _) (PySem.list_append l its.toArray n u (by rw [List.size_toArray]; omega)) ⟨e, ?_⟩
  refine ⟨.non, _, I.lset (its' := its ++ [u]) hH e (by simp) (r.append (.cons ru .nil)) ?_, rfl, q⟩
  rw [List.length_append, List.length_singleton]
  omega






/-! ### list + list, list += list, list * int -/
def rCat : R2 := fun x y H Q => ∃ l b xs zs, x = .ref l ∧ y = .ref b ∧ H l = some (.lst xs) ∧ H b = some (.lst zs) ∧ xs.length + zs.length ≤ sizeLine ∧ ∀ p, H p = none → Q (.ref p) (upd H p (.lst (xs ++ zs)))
theorem op_cat : OpR X (binaryOp .Add) rCat := by
  intro pins s σ H x y v u Q I rx ry h
  obtain ⟨l, b, xs, zs, rfl, rfl, hH, hB, hz, q⟩ := h
  cases rx
  cases ry
  obtain ⟨z, its, n, r, hl, e⟩ := I.lstM hH
  obtain ⟨z2, its2, n2, r2, hl2, e2⟩ := I.lstM hB
  refine PySem.P.add_list e e2 ?_ (by rw [List.size_toArray, List.size_toArray]; omega)
  have ea : its.toArray ++ its2.toArray = (its ++ its2).toArray := by simp
  rw [ea]
  exact ⟨.ref _, _, I.lnew (t' := s.toks) (r.append r2) (by rw [List.length_append]; omega), rfl, q _ I.fresh⟩

/-! ### del xs[i] -/
end

/-! ### xs[a:b] = ys -/
section
variable {prog : Program} {w : World} {A : Around} {E : Value → Shared → Prop} {s : Shared}
set_option maxRecDepth 100000 in
end

section
variable {X : Cx}
end
end L2

namespace L2
open PySem PySem.Spec PyProof.Rows


/-! ### the library's walks over a list of ints, kept objects alone -/
section
variable {prog : Program} {w : World} {A : Around} {E : Value → Shared → Prop} {s : Shared} {l : Addr} {its : List Value} {ns : List Int} {Q : Value → Shared → Prop}
end

/-! ### the calls, by values (CallR of 03t; MtR of 06l) -/
section
variable {X : Cx}

/-! sorted, sort (fewer than 64 items: the library's own bound) -/
end

/-! ### list.index, flat items -/
section
variable {X : Cx}
def rIndex (K : PySem.W.Frag) : V → List V → Hp → VK → Prop := fun x xs H Q => ∃ (a : Addr) (ys : List V) (y : V) (j : Nat) (z : V), x = V.ref a ∧ xs = [y] ∧ SqL K H a ys ∧ flatV y = true ∧ ys.all flatV = true ∧ ys[j]? = some z ∧ eqV z y = true ∧
  (∀ (m : Nat) (z' : V), m < j → ys[m]? = some z' → eqV z' y = false) ∧ Q (.int (j : Nat)) H
theorem flat_at {ys : List V} (f : ys.all flatV = true) {j : Nat} {z : V} (h : ys[j]? = some z) : flatV z = true := List.all_eq_true.mp f z (List.mem_of_getElem? h)
theorem mt_index : MtR X "list.index" (rIndex X.K) := by
  intro pins s σ H x xs v us Q I rx rxs h
  obtain ⟨a, ys, y, j, z, rfl, rfl, hs, fy, fys, hz, hzj, hno, q⟩ := h
  cases rx
  cases rxs with
  | cons ry rt =>
    rename_i uy ut
    cases rt
    obtain ⟨its, rv, ⟨⟨cls, dd, data, sl⟩, n, ho, hc, hdn, hd⟩, hlen⟩ := I.list hs
    simp only at hc hd
    subst hc hd
    obtain ⟨u, hu, ru⟩ := rv.get hz
    obtain ⟨hjl, hje⟩ := List.getElem?_eq_some_iff.mp hu
    have hvl := rv.length
    have hj : j < its.toArray.size := by simpa using hjl
    have hsl := sizeLine_eq
    refine call_meets PySem.F.slot_list_index ⟨_, ho, rfl⟩ PySem.F.entry_list_index (PySem.F.args_list_index_2 _ _)
      (SeqAt.list_indexAt a its.toArray n dd sl uy (eqU y) j hj (by omega) ?_ ?_) ⟨ho, fun u' hu' => mem_eqAt ry fy rv fys u' (by simpa using hu'), ?_⟩
    · have e1 : its.toArray[j] = u := by simpa using hje
      rw [e1, eqU_of ru (flat_at fys hz)]
      exact hzj
    · intro m hm hmj
      have hml : m < its.length := by simpa using hm
      have hmy : m < ys.length := by omega
      have hy' : ys[m]? = some ys[m] := List.getElem?_eq_getElem hmy
      obtain ⟨u2, hu2, ru2⟩ := rv.get hy'
      obtain ⟨_, hme⟩ := List.getElem?_eq_some_iff.mp hu2
      have e1 : its.toArray[m] = u2 := by simpa using hme
      rw [e1, eqU_of ru2 (flat_at fys hy')]
      exact hno m _ hmj hy'
    · exact ⟨.int (j : Nat), H, I.tok _, ⟨_, rfl⟩, q⟩
end

/-! ### type(x) of an own instance; is, is not of a module's class -/
section
variable {X : Cx}
end

/-! ### any(xs), all(xs) of a list of bools -/
section
variable {X : Cx}
end

/-! ### == and != of data at any depth: none, bools, ints, texts, lists, tuples -/
mutual
inductive Dp (K : PySem.W.Frag) (H : Hp) : V → PyData → Prop
  | non : Dp K H .non .none
  | bl (b : Bool) : Dp K H (.bl b) (.bool b)
  | int (i : Int) : Dp K H (.int i) (.int i)
  | str (x : Str) : Dp K H (.str x) (.str x)
  | lst {a : Addr} {xs : List V} {ds : List PyData} : SqL K H a xs → DpAll K H xs ds → Dp K H (.ref a) (.list ds)
  | tup {a : Addr} {xs : List V} {ds : List PyData} : SqT K H a xs → DpAll K H xs ds → Dp K H (.ref a) (.tuple ds)
inductive DpAll (K : PySem.W.Frag) (H : Hp) : List V → List PyData → Prop
  | nil : DpAll K H [] []
  | cons {v : V} {vs : List V} {d : PyData} {ds : List PyData} : Dp K H v d → DpAll K H vs ds → DpAll K H (v :: vs) (d :: ds)
end
section
variable {X : Cx} {pins : List (Addr × Obj)} {σ : St} {H : Hp} {s : Shared}
mutual
theorem Dp.reads (I : Inv X pins σ H s) : ∀ (d : PyData) (v : V) (u : Value), Dp X.K H v d → RelV v u → ∃ as, Reads s.heap u d as
  | .none, _, _, h, r => by
    cases h
    cases r
    exact ⟨_, Reads.none⟩
  | .bool b, _, _, h, r => by
    cases h
    cases r
    exact ⟨_, Reads.bool b⟩
  | .int i, _, _, h, r => by
    cases h
    obtain ⟨t, rfl⟩ := r
    exact ⟨_, Reads.int i t⟩
  | .str x, _, _, h, r => by
    cases h
    obtain ⟨t, rfl⟩ := r
    exact ⟨_, Reads.str x t⟩
  | .list ds, _, _, h, r => by
    cases h with
    | lst hs ha =>
      cases r
      obtain ⟨its, rv, ⟨o, n, ho, hc, _, hd⟩, _⟩ := I.list hs
      obtain ⟨as, hr⟩ := Dp.readsAll I ds _ its ha rv
      exact ⟨_, Reads.list ho hc hd hr⟩
  | .tuple ds, _, _, h, r => by
    cases h with
    | tup hs ha =>
      cases r
      obtain ⟨its, rv, ⟨o, ho, hc, n, hd⟩, _⟩ := I.tuple hs
      obtain ⟨as, hr⟩ := Dp.readsAll I ds _ its ha rv
      exact ⟨_, Reads.tuple ho hc hd hr⟩
  | .dict _, _, _, h, _ => by cases h
theorem Dp.readsAll (I : Inv X pins σ H s) : ∀ (ds : List PyData) (vs : List V) (us : List Value), DpAll X.K H vs ds → Vals vs us → ∃ as, ReadsAll s.heap us ds as
  | [], _, _, h, r => by
    cases h
    cases r
    exact ⟨_, ReadsAll.nil⟩
  | d :: ds, _, _, h, r => by
    cases h with
    | cons h1 h2 =>
      cases r with
      | cons r1 r2 =>
        obtain ⟨as, q1⟩ := Dp.reads I d _ _ h1 r1
        obtain ⟨bs, q2⟩ := Dp.readsAll I ds _ _ h2 r2
        exact ⟨_, ReadsAll.cons q1 q2⟩
end
end
section
variable {X : Cx}
def rEqD (K : PySem.W.Frag) : R2 := fun x y H Q => ∃ d e, Dp K H x d ∧ Dp K H y e ∧ SeqAt.shaped d = true ∧ SeqAt.shaped e = true ∧ Q (.bl (PyData.eqv d e)) H
theorem op_eqD (hu : X.A.units + 64 < cLine) : OpR X (compareOp .Eq) (rEqD X.K) := by
  intro pins s σ H x y v u Q I rx ry h
  obtain ⟨d, e, hd, he, sd, se, q⟩ := h
  obtain ⟨as, r1⟩ := Dp.reads I d x v hd rx
  obtain ⟨bs, r2⟩ := Dp.reads I e y u he ry
  exact SeqAt.compareEq_shaped r1 r2 sd se hu ⟨.bl _, H, I, rfl, q⟩
end
end L2

namespace L2
open PySem PySem.Spec PyProof.Rows










/-- the slots of the block's own names forgotten -/
def wipe (σ : St) : List Nat → St
  | [] => σ
  | v :: vs => (wipe σ vs).set v none

section
variable {X : Cx} {pins : List (Addr × Obj)} {σ : St} {H : Hp} {s : Shared}


def tYes : TT := fun _ H Q => Q true H
end



section
variable {X : Cx}
/-- [elt for target in iter if ..]: D the new list; W by the turn and a measure, Nx what a turn is to reach -/
def tLc (wi : TI) (g : TG) (tt : TT) (te : TE) (vs : List Nat) : TE := fun σ H Q => wi σ H fun J H1 => ∀ D, H1 D = none → ∃ W : Nat → Nat → Hp → Prop, (∃ m, W 0 m (upd H1 D (.lst []))) ∧ ∀ i m H, W i m H →
  (J.stop i H ∧ Q (.ref D) H) ∨ (J.go i H ∧ ∃ Nx : Hp → Prop, (∀ H', Nx H' → ∃ m', m' < m ∧ W (i + 1) m' H') ∧ ∀ x H', J.yld i H x H' → g x (wipe σ vs) H' fun σ2 H2 => wipe σ2 vs = wipe σ vs ∧ tt σ2 H2 fun b H3 =>
    if b = true then te σ2 H3 fun y H4 => ∃ acc, H4 D = some (.lst acc) ∧ acc.length < sizeLine ∧ Nx (upd H4 D (.lst (acc ++ [y]))) else Nx H3)
end

/-! ### the forms one uses -/
end L2

namespace L2
open PySem PySem.Spec PyProof.Rows


section
variable {prog : Program} {w : World} {A : Around} {R : Result → Shared → Prop} {s : Shared} {elt t0 i0 t1 i1 : Expr} {ifs0 ifs1 : List Expr} {scope : Scope} {pos : Pos} {it acc : Value} {env : Env}
end

section
variable {X : Cx}
end
end L2

namespace L2
open PySem PySem.Spec PyProof.Rows

/-! ### lists of pairs as tables -/
section
variable {κ : Type} [DecidableEq κ]
def valV (kvs : List (κ × V)) (k : κ) : Option V := (kvs.find? fun kv => decide (kv.1 = k)).map (·.2)
/-- in its place, or at the end -/
def putK (kvs : List (κ × V)) (k : κ) (v : V) : List (κ × V) :=
  if (kvs.any fun kv => decide (kv.1 = k)) = true then kvs.map (fun kv => if kv.1 = k then (kv.1, v) else kv) else kvs ++ [(k, v)]



end


/-! ### a tracked dict, its keys ints and texts or tuples of these -/


section
variable {P : Program} {w : World} {H : Hp} {h : Heap} {a : Addr}
end

/-- what the dict at a holds at the key y -/
def DGet (H : Hp) (a : Addr) (y : V) (r : Option V) : Prop :=
  (∃ kvs k, Rd H a (.dK kvs) ∧ y = kV k ∧ r = valV kvs k) ∨ ∃ kvs k b, Rd H a (.dT kvs) ∧ y = .ref b ∧ H b = some (.tup (k.map kV)) ∧ r = valV kvs k
/-- the heap behind a[y] = v -/
def DPut (H : Hp) (a : Addr) (y v : V) (H' : Hp) : Prop :=
  (∃ kvs k, H a = some (.dK kvs) ∧ y = kV k ∧ kvs.length < sizeLine ∧ H' = upd H a (.dK (putK kvs k v))) ∨
  ∃ kvs k b, H a = some (.dT kvs) ∧ y = .ref b ∧ H b = some (.tup (k.map kV)) ∧ kvs.length < sizeLine ∧ H' = upd H a (.dT (putK kvs k v))


section
variable {X : Cx} {pins : List (Addr × Obj)} {σ : St} {H : Hp} {s : Shared} {a : Addr} {y v : V} {u r : Value} {o : Option V} {A : Around} {E : Value → Shared → Prop}


end

section
variable {X : Cx} {pins : List (Addr × Obj)} {σ : St} {H : Hp} {s : Shared} {a : Addr} {kvs : List (Key × V)} {k : Key} {u : Value} {A : Around} {E : Value → Shared → Prop}
end


/-! ### readings and rules -/


/-- d[y] -/
def tDGet (td ty : TE) : TE := fun σ H Q => td σ H fun x H1 => ty σ H1 fun y H2 => ∃ a v, x = .ref a ∧ DGet H2 a y (some v) ∧ Q v H2
/-- y in d, y not in d -/
def tDIn (ty td : TE) : TE := fun σ H Q => ty σ H fun y H1 => td σ H1 fun x H2 => ∃ a o, x = .ref a ∧ DGet H2 a y o ∧ Q (.bl o.isSome) H2
def tDNotIn (ty td : TE) : TE := fun σ H Q => ty σ H fun y H1 => td σ H1 fun x H2 => ∃ a o, x = .ref a ∧ DGet H2 a y o ∧ Q (.bl (!o.isSome)) H2
/-- d[y] = v -/
def sDPut (td ty tv : TE) : TS := fun D σ H => tv σ H fun v H1 => td σ H1 fun x H2 => ty σ H2 fun y H3 => ∃ a H4, x = .ref a ∧ DPut H3 a y v H4 ∧ D.nx σ H4

section
variable {X : Cx} {o i e value : Expr} {pos pos' tpos : Pos} {td ty tv : TE}
end


/-! ### displays -/
/-- {}, to be a dict of the kind that is wanted -/
def tDNewK : TE := fun _ H Q => ∀ p, H p = none → Q (.ref p) (upd H p (.dK []))
section
variable {X : Cx} {pos : Pos}
end


def mergeK (kvs more : List (Key × V)) : List (Key × V) := more.foldl (fun acc kv => putK acc kv.1 kv.2) kvs


/-! ### methods -/


section
variable {X : Cx} {pins : List (Addr × Obj)} {σ : St} {H : Hp} {s : Shared} {a : Addr} {y d : V} {u r : Value} {o : Option V} {A : Around} {E : Value → Shared → Prop}
end

section
variable {X : Cx} {o e f : Expr} {apos cpos : Pos} {td ty tx : TE}
end

/-! ### dict(d): a copy -/
section
variable {X : Cx} {pins : List (Addr × Obj)} {σ : St} {H : Hp} {s : Shared} {a : Addr} {kvs : List (Key × V)} {A : Around} {E : Value → Shared → Prop}
end


section
variable {X : Cx} {pins : List (Addr × Obj)} {σ : St} {H : Hp} {s : Shared} {a : Addr} {y : V} {u : Value} {A : Around} {E : Value → Shared → Prop}
end
end L2

namespace L2
open PySem PySem.Spec PyProof.Rows


section
variable {prog : Program} {w : World} {A : Around} {E : Value → Shared → Prop}


end

section
variable {X : Cx}
end
end L2

namespace L2
open PySem PySem.Spec PyProof.Rows


section
variable {X : Cx} {pins : List (Addr × Obj)} {σ : St} {H : Hp} {s : Shared} {h' : Heap}
/-- .. and one new object is laid -/
theorem Inv.turnedNew {t' : Nat} {ch : List Addr} {T : Addr} {ob : HO} (I : Inv X pins σ H s) (k : ∀ b o, b ∉ ch → s.heap.get? b = some o → h'.get? b = some o) (hf : ∀ b ∈ ch, FpOk X pins H b) (hT : s.heap.objs.size ≤ T)
    (new : ObjOk X.prog X.w (upd H T ob) h' T ob) : Inv X pins σ (upd H T ob) { s with heap := h', toks := t' } := by
  have hn : H T = none := I.hok.fresh hT
  have nit : ∀ b u, H b = some u → b ∉ ch := fun b u e z => by
    have q := (hf b z).1
    rw [q] at e; cases e
  refine I.step (g' := s.gens) (d' := s.drawn) (ch := ch) (fun b hb => ⟨(hf b hb).2.2.2.1, (hf b hb).2.1, (hf b hb).2.2.2.2.1, (hf b hb).2.2.2.2.2⟩) (fun b o _ _ hc e _ => k b o hc e) (fun b o _ _ hc e _ => ⟨o.slots, k b o hc e⟩)
    (fun b o _ e n => ?_) (fun b o hc e => ⟨o, k b o hc e⟩) (fun b xs e => ?_) (fun b o u e => ?_) (fun b ps e => ⟨#[], ?_⟩) (fun m hm => ?_) (fun b u e => ?_) I.bare
  · rw [upd_ne (Nat.ne_of_lt (Nat.lt_of_lt_of_le (Heap.lt_size e) hT))]; exact n
  · rw [upd_ne (ne_of_none e hn)]; exact e
  · rw [upd_ne (ne_of_none e hn)]; exact e
  · rw [upd_ne (ne_of_none e hn), e]; simp
  · obtain ⟨o, es, ep, ho, r⟩ := hm
    exact ⟨o, es, ep, k _ o (fun z => (hf _ z).2.1 rfl) ho, r⟩
  · by_cases hb : b = T
    · subst hb
      rw [upd_same] at e
      cases e
      exact new
    · rw [upd_ne hb] at e
      refine (I.hok b u e).stay (fun c v hc q => k c v ?_ q) (fun c q => by rw [upd_ne (ne_of_none q hn)]; exact q) fun c xs q => by rw [upd_ne (ne_of_none q hn)]; exact q
      rcases hc with z | z
      · rw [z]; exact nit b u e
      · exact nit c _ z

/-! ### locking a thing while a statement runs -/
end
section
variable {X : Cx}

/-! ### one iterator just laid -/
end

/-! ### range with a step -/
/-- lo, lo + c, .. (n of them) -/
def Itc (lo c : Int) (n : Nat) : It := ⟨fun i _ => i < n, fun i H x H' => H' = H ∧ x = .int (lo + (i : Nat) * c), fun i _ => n ≤ i⟩
/-- range(i, j, c): small bounds, n items -/
def RgC (i j c : Int) (n : Nat) : Prop := c ≠ 0 ∧ c.natAbs < 1073741824 ∧ Builtin.Range.small i j c = true ∧ Builtin.Range.rangeSize i j c = n
def iRng3 (ta : TA) : TI := fun σ H R => ta σ H fun vs H1 => ∃ (i j c : Int) (n : Nat), vs = [.int i, .int j, .int c] ∧ RgC i j c n ∧ R (Itc i c n) H1
section
variable {X : Cx} {tg : Expr}
end

/-! ### reversed(list) -/
section
variable {X : Cx} {tg : Expr}
end

/-! ### a str -/

/-! ### a dict's keys: any dict's entries -/
section
variable {prog : Program} {w : World} {A : Around} {E : Value → Shared → Prop} {s : Shared}
end

/-! ### a locked dict -/
section
variable {X : Cx} {pins : List (Addr × Obj)} {σ : St} {H : Hp} {s : Shared} {d : Addr} {o : Obj}
end

section
variable {P : Program} {w : World} {K : PySem.W.Frag} {tg : Expr} {d : Addr} {o : Obj} {es : Array DictEntry} {ep : Nat}
end

/-! ### for k in d, d.keys(), d.values(), d.items() -/
section
variable {X : Cx} {tg e : Expr} {td : TE} {apos cpos : Pos}
end

/-! ### enumerate(list) -/
/-- the list at a as it stands at each turn, each item in a new pair -/
def Ite (K : PySem.W.Frag) (a : Addr) : It :=
  ⟨fun i H => ∃ (xs : List V) (x : V), SqL K H a xs ∧ xs[i]? = some x, fun i H v H' => ∃ T x, v = .ref T ∧ H T = none ∧ H' = upd H T (.tup [.int (i : Nat), x]) ∧ ∀ xs, SqL K H a xs → xs[i]? = some x, fun i H => ∃ xs : List V, SqL K H a xs ∧ xs.length ≤ i⟩
theorem turn_enum {P : Program} {w : World} {K : PySem.W.Frag} {elts : List Expr} {kk : Nat} {tpos : Pos} (a e it : Addr) :
    Turn P w K (.Tuple elts kk tpos) (Ite K a) [e, it] e (fun i h => (∃ old, IsEnum h e it ((i : Nat) : Int) old) ∧ h.IsListIter it a i ∧ e ≠ it) where
  mem := by simp
  obj := fun i h st b hb => by
    obtain ⟨⟨old, he⟩, ⟨o, ho, hc, hd⟩, _⟩ := st
    have e' : b = e ∨ b = it := by simpa using hb
    rcases e' with z | z
    · rw [z]; exact ⟨_, he, fun v q => nomatch q⟩
    · rw [z]; exact ⟨o, ho, fun v q => by rw [hd] at q; cases q⟩
  keep := fun i h h' st k => let ⟨⟨old, he⟩, hi, hne⟩ := st; ⟨⟨old, k e (by simp) _ he⟩, hi.at fun o q => k it (by simp) o q, hne⟩
  item := by
    intro X hP hw hK hc i pins s σ H E I hf st hg
    subst hP hw hK
    obtain ⟨⟨old, he⟩, hit, hne⟩ := st
    obtain ⟨xs, x, hq, hx⟩ := hg
    obtain ⟨its, rv, p, hz⟩ := I.list hq
    obtain ⟨u, hu, ru⟩ := rv.get hx
    have hel : e < s.heap.objs.size := Heap.lt_size he
    have hil : it < s.heap.objs.size := by obtain ⟨_, q, _⟩ := hit; exact Heap.lt_size q
    refine wpAny_pyNext_enum_item he hit p.isList (x := u) (by simpa using hu) hne fun h' ho hit' hT hsz hk => ?_
    refine ⟨_, rfl, wpAny_letOwnedTupleGo_enum (s := { s with heap := h', toks := s.toks + 1 }) ho fun h'' he' sb => ?_⟩
    have hT2 : h''.get? s.heap.objs.size = some { cls := .type "tuple", data := .seq #[.int i s.toks, u] } := (sb.2 _ (Nat.ne_of_gt hel)).trans hT
    have new : ObjOk X.prog X.w (upd H s.heap.objs.size (.tup [.int (i : Nat), x])) h'' s.heap.objs.size (.tup [.int (i : Nat), x]) :=
      ⟨by show 2 ≤ sizeLine; decide, [.int i s.toks, u], .cons ⟨_, rfl⟩ (.cons ru .nil), ⟨_, hT2, rfl, _, rfl⟩⟩
    have I1 : Inv X pins σ (upd H s.heap.objs.size (.tup [.int (i : Nat), x])) { s with heap := h'', toks := s.toks + 1 } :=
      I.turnedNew (ch := [e, it]) (fun b ob hb q => (sb.2 b (fun z => hb (by simp [z]))).trans (hk b ob (fun z => hb (by simp [z])) (fun z => hb (by simp [z])) q)) hf (Nat.le_refl _) new
    refine ⟨.ref s.heap.objs.size, _, I1, rfl, ⟨_, x, rfl, I.hok.fresh (Nat.le_refl _), rfl, fun ys hy => by rw [I.list_inj hy hq]; exact hx⟩, ⟨⟨u, ?_⟩, hit'.at fun o q => (sb.2 it (Ne.symm hne)).trans q, hne⟩, fun b hb => ?_⟩
    · have e1 : ((i + 1 : Nat) : Int) = (i : Int) + 1 := by omega
      rw [e1]; exact he'
    · have hb' : b < s.heap.objs.size := by
        have e' : b = e ∨ b = it := by simpa using hb
        rcases e' with z | z
        · rw [z]; exact hel
        · rw [z]; exact hil
      rw [upd_ne (Nat.ne_of_lt hb')]
      exact (hf b hb).1
  done := by
    intro X hP hw hK hc i pins s σ H E I hf st hg
    subst hP hw hK
    obtain ⟨⟨old, he⟩, hit, hne⟩ := st
    obtain ⟨xs, hq, hx⟩ := hg
    obtain ⟨its, rv, p, hz⟩ := I.list hq
    obtain ⟨f0, f1, f2, f3, f4, f5⟩ := hf it (by simp)
    have hl := rv.length
    exact wpAny_pyNext_enum_end (I.ok.hd hc) he hit p.isList (by simp; omega) fun h' eb => ⟨rfl, I.turned (t' := s.toks) (fun b o hb q => eb b o hb q) f0 f1 f3 f4 f5⟩
  self := fun A i s Q E st h => let ⟨⟨_, he⟩, _⟩ := st; wpAny_pyIter_enum he h
def iEnum (K : PySem.W.Frag) (ta : TA) : TI := fun σ H R => ta σ H fun vs H1 => ∃ a xs, vs = [.ref a] ∧ SqL K H1 a xs ∧ R (Ite K a) H1
theorem pi_enum {X : Cx} {e : Expr} {ta : TA} {p pos tpos : Pos} {elts : List Expr} {kk : Nat} (hg : Gl X "enumerate") (hm : X.mg "enumerate" = none) (ha : PA X [e] ta) (hs : starEach [e] X.env = [(false, eval e X.env)] := by rfl) :
    PI X (.Tuple elts kk tpos) (.Call (.Name "enumerate" p) [e] [] pos) (iEnum X.K ta) := by
  intro pins s σ H R I h
  refine Call_ (ld_blt I hg hm boot_enumerate (PyProof.Rows.callWith_type1 (thn (ha pos pins s σ H _ I h) fun us s1 ⟨vs, H1, I1, r1, q1⟩ => ?_) hs rfl))
  obtain ⟨a, xs, ex, hq, q⟩ := q1
  subst ex
  cases r1 with
  | cons r rr =>
    cases rr
    cases r
    obtain ⟨its, rv, p', hz⟩ := I1.list hq
    refine call_enumerate_list p'.isList fun h' he hit hsz hk => wpAny_pyIter_enum he ?_
    have I2 : Inv X pins σ H1 { s1 with heap := h' } := I1.kept (t' := s1.toks) hk
    refine ⟨s1.heap.objs.size + 1, [s1.heap.objs.size + 1, s1.heap.objs.size], _, _, H1, rfl, I2, turn_enum a (s1.heap.objs.size + 1) s1.heap.objs.size, ⟨⟨.none, he⟩, hit, Nat.succ_ne_self _⟩, fun b hb => ?_, q⟩
    have e' : b = s1.heap.objs.size + 1 ∨ b = s1.heap.objs.size := by simpa using hb
    have hle : s1.heap.objs.size ≤ b := by
      rcases e' with z | z
      · rw [z]; exact Nat.le_add_right _ _
      · rw [z]; exact Nat.le_refl _
    exact I1.fpOk hle (I1.hok.fresh hle)
/-! ### zip(list, list) -/
/-- the lists at a and b as they stand at each turn, the items in new pairs -/
def Itz (K : PySem.W.Frag) (a b : Addr) : It :=
  ⟨fun i H => ∃ (xs ys : List V) (x y : V), SqL K H a xs ∧ SqL K H b ys ∧ xs[i]? = some x ∧ ys[i]? = some y,
    fun i H v H' => ∃ T x y, v = .ref T ∧ H T = none ∧ H' = upd H T (.tup [x, y]) ∧ (∀ xs, SqL K H a xs → xs[i]? = some x) ∧ ∀ ys, SqL K H b ys → ys[i]? = some y,
    fun i H => ∃ xs ys : List V, SqL K H a xs ∧ SqL K H b ys ∧ (xs.length ≤ i ∨ ys.length ≤ i)⟩
def iZip (K : PySem.W.Frag) (ta : TA) : TI := fun σ H R => ta σ H fun vs H1 => ∃ a b xs ys, vs = [.ref a, .ref b] ∧ SqL K H1 a xs ∧ SqL K H1 b ys ∧ R (Itz K a b) H1
end L2

section 
namespace Bits
open PySem PyProof.Rows








end Bits
end 

section 
namespace TL
open PySem PySem.Builtin PySem.Builtin.Str PySem.StrLaws

abbrev tl (x : Str) : List Nat := x.cps.toList

/-! ### the list functions -/




/-! ### the model's split and partition are these -/




/-! ### computing spl and par -/


/-! ### digits -/

/-! ### words: x.split() -/
end TL
end 

namespace L2
open PySem PySem.Spec PyProof.Rows




section
variable {X : Cx} {pins : List (Addr × Obj)} {σ : St} {H : Hp} {s : Shared} {Q : VK}
end

section
variable {X : Cx}





/-! ### of a text alone -/

/-! ### of a text and a text -/

end

section
variable {X : Cx} {o e : Expr} {to te : TE}

end
end L2

namespace L2
open PySem PySem.Spec PyProof.Rows

section
variable {X : Cx}
end

/-! ### slices of a text -/


end L2

namespace Att
open PySem PySem.W PySem.Calls PyProof.Rows

/-! ### the script -/



/-! ### the attachment: holds_open's last premise (the goal 'hc' behind k_head) from a wpAny of the law's body -/



/-! ### rules over ANY heap (no ledger) from facts about the written part K: the library's own take a ledger (News) for what they write -/
section
variable {prog : Program} {w : World} {A : Around} {E : Value → Shared → Prop} {s : Shared} {K : Frag}





/-! the whole heap as the ledger: makes every rule that writes through a ledger a rule over any heap -/

end
end Att

namespace L2
open PySem PySem.Spec PyProof.Rows



end L2

namespace L2
open PySem PySem.Spec PyProof.Rows


end L2

/- THE LAST THEOREM (shape; LID, My.* are yours):
   My.Adr: a structure of the addresses that your layer names (classes, functions); My.Txt K t: a structure (Prop) of the equations over K;
   My.txt_mk : {K} {implicit addresses ..} (e1 : nsIn K mainGlobals "law" = some (some (.ref f))) (e2 : K.lookup f = some ⟨oc, od, .func (fnOf "law" "law" params body scope dV kV doc pm an cdv ct), sl⟩) (e3 : codeIn K cdv "law" = true) .. : ∃ t, My.Txt K t

set_option maxRecDepth 100000 in
set_option maxHeartbeats 0 in
theorem PySem.Challenge.cw_LID_holds : PySem.Challenge.rw_LID.Holds := by
  w_on; o_law; k_head; (case hw => w_witness2)
  k_fill
  refine L2.walk_of (l := PySem.Challenge.rw_LID) (n := 63) (k := 40) (x := "script") (CX := fun w => ..) (sp := fun _ => My.sp_law) rfl (by decide) rfl ⟨rfl, by decide, by decide⟩ (fun w h Y => PySem.W.kIn_of Y) ?F ?S ?C
  case F =>
    intro w mg fa h KX G hmg
    have T : ∃ t, My.Txt (L2.KOf KX) t := by
      dsimp only [L2.KOf]                          -- K must stand as «<heap const> w.params» for k_is
      refine' My.txt_mk ?e1 ?e2 ?e3 ..
      (case e1 => PySem.W.k_is)                    -- in the order: a name -> its address -> its object -> its parts
      (case e2 => PySem.W.k_is)
      ..
    obtain ⟨t, T⟩ := T
    have e0 := hmg.symm.trans (PySem.W.mg_of KX G T.law)
    cases e0                                       -- fa is the law's own address
    exact ⟨_, fun s u => .of_eq rfl, fun base kb nb => My.law_fn T kb nb⟩     -- if «.of_eq rfl» comes too early: refine' ⟨_, ?b, fun base kb nb => My.law_fn T kb nb⟩; exact fun s u => .of_eq rfl
  case S => exact fun w H a ns hl hO hS => ..
  case C => exact ..
(the tactic k_is has no namespace: write k_is) -/

/-! SHORT WORDS over the layer: a def of the text, its body, what a loop and a test want. -/
namespace L2
open PySem PySem.Spec PyProof.Rows

/-! ### the text by places -/
def defArgs (s : Stmt) : Arguments := match s with
  | .FunctionDef _ a _ _ _ _ _ _ _ _ => a
  | _ => { posonlyargs := [], args := [], vararg := none, kwonlyargs := [], kw_defaults := [], kwarg := none, defaults := [] }
def defBody (s : Stmt) : List Stmt := match s with
  | .FunctionDef _ _ b _ _ _ _ _ _ _ => b
  | _ => []
def defScope (s : Stmt) : Scope := match s with
  | .FunctionDef _ _ _ _ _ _ sc _ _ _ => sc
  | _ => { kind := .function, names := [], isGenerator := false, isCoroutine := false }

/-! ### no exception leaves a def -/
abbrev CX0 : CXT := fun _ _ _ _ _ _ => False
abbrev E0 : XK := fun _ _ _ => False
theorem pass0 {X : Cx} : Passes CX0 X E0 := fun _ _ _ _ _ _ _ h => h.elim

/-! ### a def (or method) of the text as it stands behind the top -/
structure Fun (K : PySem.W.Frag) (x qual : Str) (st : Stmt) (f : Addr) (fd : FuncData) : Prop where
  ex : ∃ (oc : Value) (od : Option Addr) (kV doc pm : Value) (an : Option Addr) (cdv ct : Value) (osl : Array (Option Value)),
    fd = PySem.W.fnOf x qual (defArgs st) (defBody st) (defScope st) .none kV doc pm an cdv ct ∧ K.lookup f = some ⟨oc, od, .func fd, osl⟩ ∧ PySem.W.codeIn K cdv qual = true
  kp : PySem.W.keepIn K (.ref f) = true
section
variable {P : Program} {w : World} {K : PySem.W.Frag} {mg : Str → Option Value} {base : Heap}
/-- THE RULE for a def: its body as a term of rules, and the reading of that term -/
theorem Fun.ok {x qual : Str} {st : Stmt} {f : Addr} {fd : FuncData} {N ps : List Str} {k : Nat} {sp : Sp} (F : Fun K x qual st f fd) (S : FnScope N ps (defScope st)) (len : ∀ vs H Q E, sp vs H Q E → vs.length = ps.length)
    (hbody : ∀ (cdv : Value) (A : Around) (outer : List Env) (s : Shared) (H : Hp) (vs : List V) (Q : VK) (E : XK), Room k (A.deeper (envOfC qual (defScope st) s.heap.objs.size f cdv)) → sp vs H Q E →
      ∃ t, PSs (cxOf CX0 P w K mg base N qual (defScope st) f cdv A outer s H E).nox (defBody st) t ∧ t { nx := fun _ H' => Q .non H', rt := Q } (start N vs) H) : FnOk P w K mg base CX0 (k + 1) f fd ps sp := by
  obtain ⟨oc, od, kV, doc, pm, an, cdv, ct, osl, rfl, lk, hcd⟩ := F.ex
  refine fn_of lk hcd S len fun A outer s H vs Q E hr hsp => ?_
  obtain ⟨t, h, q⟩ := hbody cdv A outer s H vs Q E hr hsp
  exact ⟨t, h.nox, q⟩
/-- how its arguments bind (no defaults): h is «fun _ _ _ _ _ _ us hl => match us, hl with | [_, _], _ => rfl», one _ a parameter -/
theorem Fun.binds {x qual : Str} {st : Stmt} {f : Addr} {fd : FuncData} {ps : List Str} (F : Fun K x qual st f fd)
    (h : ∀ (kV doc pm : Value) (an : Option Addr) (cdv ct : Value) (us : List Value), us.length = ps.length → bindArgs (PySem.W.fnOf x qual (defArgs st) (defBody st) (defScope st) .none kV doc pm an cdv ct) ⟨us, []⟩ = pure (ps.zip us)) : Binds K fd ps [] := by
  obtain ⟨oc, od, kV, doc, pm, an, cdv, ct, osl, rfl, lk, hcd⟩ := F.ex
  exact .all (h kV doc pm an cdv ct)
theorem fun_mk {x qual : Str} {st : Stmt} {f : Addr} {oc : Value} {od an : Option Addr} {osl : Array (Option Value)} {kV doc pm cdv ct : Value} (l : K.lookup f = some ⟨oc, od, .func (PySem.W.fnOf x qual (defArgs st) (defBody st) (defScope st) .none kV doc pm an cdv ct), osl⟩)
    (c : PySem.W.codeIn K cdv qual = true) (k : PySem.W.keepIn K (.ref f) = true) : Fun K x qual st f (PySem.W.fnOf x qual (defArgs st) (defBody st) (defScope st) .none kV doc pm an cdv ct) := ⟨⟨oc, od, kV, doc, pm, an, cdv, ct, osl, rfl, l, c⟩, k⟩
end

/-! ### expressions in short: the name that stands in the i-th slot -/
section
variable {X : Cx}
theorem pv (i : Nat) {x : Str} {pos : Pos} (hN : X.N[i]? = some x := by rfl) (hv : Vis X.env.scope x := by first | exact Or.inl rfl | exact Or.inr (Or.inl rfl) | exact Or.inr (Or.inr rfl)) (hd : (x == ("__debug__" : Str)) = false := by decide)
    (hcd : (x == ("__classdict__" : Str)) = false := by decide) : PE X (.Name x pos) (tVar i) := pe_var hN hv hd hcd
end

/-! ### tests -/
theorem iteF {A B : Prop} (h : B) : if false = true then A else B := by
  rw [if_neg Bool.false_ne_true]
  exact h
theorem iteT {A B : Prop} (h : A) : if true = true then A else B := by
  rw [if_pos rfl]
  exact h

/-! ### heaps -/
/-- all that was tracked is as it was -/
def Same (H H' : Hp) : Prop := ∀ b o, H b = some o → H' b = some o
theorem Same.refl (H : Hp) : Same H H := fun _ _ h => h
theorem Same.trans {H H1 H2 : Hp} (a : Same H H1) (b : Same H1 H2) : Same H H2 := fun c o h => b c o (a c o h)
theorem Same.seq {K : PySem.W.Frag} {H H' : Hp} {a : Addr} {xs : List V} (e : Same H H') (h : SqL K H a xs) : SqL K H' a xs := by
  rcases h with (h | ⟨o, h⟩) | h
  · exact .inl (.inl (e _ _ h))
  · exact .inl (.inr ⟨o, e _ _ h⟩)
  · exact .inr h

/-! ### a dict's pairs: keys that differ -/
section
variable {κ : Type} [DecidableEq κ]
end
/-! ### lists -/
theorem at_of {xs : List V} {z : Int} {j : Nat} {v : V} (e : z = (j : Int)) (h : xs[j]? = some v) : atI xs z = some v := by
  rw [e]
  exact atI_nat h
end L2

section
set_option Elab.async false
set_option linter.all false
set_option maxRecDepth 100000
set_option maxHeartbeats 2000000
namespace L2
open PySem PySem.Spec PyProof.Rows
open PySem.W (WData Codec OpenSpec Well WellAll ReadsW ReadsAllW)
/-! ### an answer as data -/
mutual
/-- x stands for the datum d, lists and tuples all the way -/
inductive Dw (K : PySem.W.Frag) (H : Hp) : V → WData → Prop
  | non : Dw K H .non .none
  | bl (b : Bool) : Dw K H (.bl b) (.bool b)
  | int (i : Int) : Dw K H (.int i) (.int i)
  | str (x : Str) : Dw K H (.str x) (.str x)
  | byt (b : Array UInt8) : Dw K H (.byt b) (.bytes b.toList)
  | lst {a : Addr} {xs : List V} {ds : List WData} : SqL K H a xs → DwAll K H xs ds → Dw K H (.ref a) (.list ds)
  | tup {a : Addr} {xs : List V} {ds : List WData} : SqT K H a xs → DwAll K H xs ds → Dw K H (.ref a) (.tuple ds)
inductive DwAll (K : PySem.W.Frag) (H : Hp) : List V → List WData → Prop
  | nil : DwAll K H [] []
  | cons {v : V} {vs : List V} {d : WData} {ds : List WData} : Dw K H v d → DwAll K H vs ds → DwAll K H (v :: vs) (d :: ds)
end
theorem dw_ints {K : PySem.W.Frag} {H : Hp} : ∀ ns : List Int, DwAll K H (ns.map V.int) (ns.map WData.int)
  | [] => .nil
  | n :: r => .cons (.int n) (dw_ints r)
theorem ints_dw {K : PySem.W.Frag} {H : Hp} : ∀ (ns : List Int) (xs : List V), DwAll K H xs (ns.map WData.int) → xs = ns.map V.int
  | [], xs, h => by
    cases h
    rfl
  | n :: r, xs, h => by
    cases h with
    | cons h1 h2 =>
      cases h1
      rw [ints_dw r _ h2] <;> rfl
section
variable {P : Program} {w : World} {K : PySem.W.Frag} {H : Hp} {h : Heap} {R : PySem.W.WRecords} {cl : Str → Option Addr}
theorem sqL_at {a : Addr} {xs : List V} (hok : HOk P w H h) (KX : K.In h) (q : SqL K H a xs) : ∃ (its : List Value) (o : Obj) (n : Nat), Vals xs its ∧ h.get? a = some o ∧ o.cls = .type "list" ∧ o.data = .seq its.toArray n := by
  rcases q with q | ⟨o, its, n, e, hc, _, hd, _, hv⟩
  · obtain ⟨_, its, n, hv, e⟩ := (show ObjOk P w H h a (.lst xs) from q.ok hok)
    exact ⟨its, _, n, hv, e, rfl, rfl⟩
  · exact ⟨its.toList, o, n, hv, KX _ _ e, hc, by simp [hd]⟩
theorem sqT_at {a : Addr} {xs : List V} (hok : HOk P w H h) (KX : K.In h) (q : SqT K H a xs) : ∃ (its : List Value) (o : Obj) (n : Nat), Vals xs its ∧ h.get? a = some o ∧ o.cls = .type "tuple" ∧ o.data = .seq its.toArray n := by
  rcases q with q | ⟨o, its, n, e, hc, hd, _, hv⟩
  · obtain ⟨_, its, hv, o, e, hc, n, hd⟩ := (show ObjOk P w H h a (.tup xs) from q.ok hok)
    exact ⟨its, o, n, hv, e, hc, hd⟩
  · exact ⟨its.toList, o, n, hv, KX _ _ e, hc, by simp [hd]⟩
mutual
theorem Dw.reads (hok : HOk P w H h) (KX : K.In h) : ∀ (d : WData) (v : V) (u : Value), Dw K H v d → RelV v u → ∃ as, ReadsW R cl h u d as
  | .none, _, _, x, r => by
    cases x
    cases r
    exact ⟨_, ReadsW.none⟩
  | .bool b, _, _, x, r => by
    cases x
    cases r
    exact ⟨_, ReadsW.bool b⟩
  | .int i, _, _, x, r => by
    cases x
    obtain ⟨t, rfl⟩ := r
    exact ⟨_, ReadsW.int i t⟩
  | .str s, _, _, x, r => by
    cases x
    obtain ⟨t, rfl⟩ := r
    exact ⟨_, ReadsW.str s t⟩
  | .bytes b, _, _, x, r => by
    cases x
    obtain ⟨t, rfl⟩ := r
    exact ⟨_, ReadsW.bytes _ t⟩
  | .list ds, _, _, x, r => by
    cases x with
    | lst hs ha =>
      cases r
      obtain ⟨its, o, n, rv, ho, hc, hd⟩ := sqL_at hok KX hs
      obtain ⟨as, hr⟩ := Dw.readsAll hok KX ds _ its ha rv
      exact ⟨_, ReadsW.list ho hc hd hr⟩
  | .tuple ds, _, _, x, r => by
    cases x with
    | tup hs ha =>
      cases r
      obtain ⟨its, o, n, rv, ho, hc, hd⟩ := sqT_at hok KX hs
      obtain ⟨as, hr⟩ := Dw.readsAll hok KX ds _ its ha rv
      exact ⟨_, ReadsW.tuple ho hc hd hr⟩
  | .float _, _, _, x, _ => by cases x
  | .dict _, _, _, x, _ => by cases x
  | .bytearray _, _, _, x, _ => by cases x
  | .set _, _, _, x, _ => by cases x
  | .frozenset _, _, _, x, _ => by cases x
  | .obj _ _, _, _, x, _ => by cases x
theorem Dw.readsAll (hok : HOk P w H h) (KX : K.In h) : ∀ (ds : List WData) (vs : List V) (us : List Value), DwAll K H vs ds → Vals vs us → ∃ as, ReadsAllW R cl h us ds as
  | [], _, _, x, r => by
    cases x
    cases r
    exact ⟨_, ReadsAllW.nil⟩
  | d :: ds, _, _, x, r => by
    cases x with
    | cons h1 h2 =>
      cases r with
      | cons r1 r2 =>
        obtain ⟨as, q1⟩ := Dw.reads hok KX d _ _ h1 r1
        obtain ⟨bs, q2⟩ := Dw.readsAll hok KX ds _ _ h2 r2
        exact ⟨_, ReadsAllW.cons q1 q2⟩
end
end
/-! ### the arguments -/
mutual
/-- data that a codec tells -/
def plW : WData → Bool
  | .none => true
  | .bool _ => true
  | .int _ => true
  | .str _ => true
  | .bytes _ => true
  | .list xs => plWs xs
  | .tuple xs => plWs xs
  | _ => false
def plWs : List WData → Bool
  | [] => true
  | x :: r => plW x && plWs r
end
theorem plWs_map {α : Type} {f : α → WData} (h : ∀ a, plW (f a) = true) : ∀ l : List α, plWs (l.map f) = true
  | [] => rfl
  | x :: r => by
    show (plW (f x) && plWs (r.map f)) = true
    rw [h x, plWs_map h r] <;> rfl
theorem pl_enc : ∀ (c : Codec) (a : c.denote), plW (c.enc a) = true
  | .unit, _ => rfl
  | .bool, _ => rfl
  | .int _ _, _ => rfl
  | .nat _ _, _ => rfl
  | .u8, _ => rfl
  | .bytes _ _, _ => rfl
  | .text _ _ _ _, _ => rfl
  | .list _ _ c, a => plWs_map (fun x => pl_enc c x) a
  | .pair c d, a => by
    show (plW (c.enc a.1) && (plW (d.enc a.2) && true)) = true
    rw [pl_enc c a.1, pl_enc d a.2] <;> rfl
  | .triple c d e, a => by
    show (plW (c.enc a.1) && (plW (d.enc a.2.1) && (plW (e.enc a.2.2) && true))) = true
    rw [pl_enc c a.1, pl_enc d a.2.1, pl_enc e a.2.2] <;> rfl
  | .option c, none => rfl
  | .option c, some x => pl_enc c x
theorem pl_encAll : ∀ (cs : List Codec) (a : Codec.denoteAll cs), plWs (Codec.encAll cs a) = true
  | [], _ => rfl
  | c :: cs, a => by
    show (plW (c.enc a.1) && plWs (Codec.encAll cs a.2)) = true
    rw [pl_enc c a.1, pl_encAll cs a.2] <;> rfl
theorem weight_mem : ∀ {xs : List WData} {d : WData}, d ∈ xs → d.weight ≤ WData.weightAll xs
  | [], d, h => absurd h (by simp)
  | x :: r, d, h => by
    show d.weight ≤ x.weight + 1 + WData.weightAll r
    rcases List.mem_cons.mp h with e | m
    · rw [e]
      omega
    · have z := weight_mem m
      omega
def toV : Value → V
  | .none => .non
  | .bool b => .bl b
  | .int i _ => .int i
  | .str x _ => .str x
  | .bytes b _ => .byt b
  | .ref a => .ref a
  | _ => .non
/-- a value of the arguments, its objects among A -/
def OkU (A : List Addr) : Value → Prop
  | .none => True
  | .bool _ => True
  | .int _ _ => True
  | .str _ _ => True
  | .bytes _ _ => True
  | .ref a => a ∈ A
  | _ => False
theorem OkU.mono {A B : List Addr} (h : ∀ a ∈ A, a ∈ B) : ∀ {u : Value}, OkU A u → OkU B u := fun {u} x => by
  cases u with
  | ref a => exact h a x
  | none => trivial
  | bool b => trivial
  | int i t => trivial
  | str s t => trivial
  | bytes b t => trivial
  | _ => exact False.elim x
theorem relV_toV {A : List Addr} {u : Value} (x : OkU A u) : RelV (toV u) u := by
  cases u with
  | ref a => rfl
  | none => rfl
  | bool b => rfl
  | int i t => exact ⟨t, rfl⟩
  | str s t => exact ⟨t, rfl⟩
  | bytes b t => exact ⟨t, rfl⟩
  | _ => exact False.elim x
theorem vals_toV {A : List Addr} : ∀ {vs : List Value}, (∀ u ∈ vs, OkU A u) → Vals (vs.map toV) vs
  | [], _ => .nil
  | u :: r, h => .cons (relV_toV (h u (List.mem_cons_self ..))) (vals_toV fun x hx => h x (List.mem_cons_of_mem _ hx))
/-- an object of the arguments -/
def ArgOb (h : Heap) (A : List Addr) (a : Addr) : Prop := ∃ vs : List Value, vs.length ≤ sizeLine ∧ (∀ u ∈ vs, OkU A u) ∧
  (h.get? a = some { cls := .type "list", data := .seq vs.toArray } ∨ h.get? a = some { cls := .type "tuple", data := .seq vs.toArray })
theorem ArgOb.mono {h : Heap} {A B : List Addr} {a : Addr} (k : ∀ a ∈ A, a ∈ B) (x : ArgOb h A a) : ArgOb h B a := by
  obtain ⟨vs, h1, h2, h3⟩ := x
  exact ⟨vs, h1, fun u hu => (h2 u hu).mono k, h3⟩
theorem wellAll_len {P : Params} {h : Heap} : ∀ {vs : List Value} {ds : List WData}, WellAll P h vs ds → vs.length = ds.length
  | _, _, .nil => rfl
  | _, _, .cons _ b => by
    show _ + 1 = _ + 1
    rw [wellAll_len b]
theorem well_list {P : Params} {h : Heap} {v : Value} {ds : List WData} (x : Well P h v (.list ds)) : ∃ (a : Addr) (vs : List Value), v = .ref a ∧ h.get? a = some { cls := .type "list", data := .seq vs.toArray } ∧ WellAll P h vs ds := by
  cases x with
  | list ho hall => exact ⟨_, _, rfl, ho, hall⟩
theorem well_tuple {P : Params} {h : Heap} {v : Value} {ds : List WData} (x : Well P h v (.tuple ds)) : ∃ (a : Addr) (vs : List Value), v = .ref a ∧ h.get? a = some { cls := .type "tuple", data := .seq vs.toArray } ∧ WellAll P h vs ds := by
  cases x with
  | tuple ho hall => exact ⟨_, _, rfl, ho, hall⟩
theorem well_cons {P : Params} {h : Heap} {us : List Value} {d : WData} {ds : List WData} (x : WellAll P h us (d :: ds)) : ∃ (v : Value) (vs : List Value), us = v :: vs ∧ Well P h v d ∧ WellAll P h vs ds := by
  cases x with
  | cons a b => exact ⟨_, _, rfl, a, b⟩
theorem line_of {n : Nat} (h : n ≤ 1048576) : n ≤ sizeLine := Nat.le_trans h (by decide)
section
variable {P : Params} {h : Heap}
mutual
theorem area_one : ∀ (d : WData) (v : Value), Well P h v d → plW d = true → d.weight ≤ 1048576 → ∃ A : List Addr, OkU A v ∧ ∀ a ∈ A, ArgOb h A a
  | .none, _, x, _, _ => by
    cases x
    exact ⟨[], trivial, fun a m => absurd m (by simp)⟩
  | .bool b, _, x, _, _ => by
    cases x
    exact ⟨[], trivial, fun a m => absurd m (by simp)⟩
  | .int i, _, x, _, _ => by
    cases x
    exact ⟨[], trivial, fun a m => absurd m (by simp)⟩
  | .str s, _, x, _, _ => by
    cases x
    exact ⟨[], trivial, fun a m => absurd m (by simp)⟩
  | .bytes b, _, x, _, _ => by
    cases x
    exact ⟨[], trivial, fun a m => absurd m (by simp)⟩
  | .list ds, _, x, p, z => by
    obtain ⟨a, vs, rfl, ho, hall⟩ := well_list x
    have z2 : WData.weightAll ds ≤ 1048576 := z
    obtain ⟨A, h1, h2⟩ := area_all ds _ hall p fun d hd => Nat.le_trans (weight_mem hd) z2
    have k : ∀ b ∈ A, b ∈ a :: A := fun b hb => List.mem_cons_of_mem _ hb
    refine ⟨a :: A, List.mem_cons_self .., fun b hb => ?_⟩
    rcases List.mem_cons.mp hb with e | m
    · rw [e]
      exact ⟨vs, line_of (by rw [wellAll_len hall]; exact Nat.le_trans (PySem.W.length_le_weightAllW ds) z2), fun u hu => (h1 u hu).mono k, .inl ho⟩
    · exact (h2 b m).mono k
  | .tuple ds, _, x, p, z => by
    obtain ⟨a, vs, rfl, ho, hall⟩ := well_tuple x
    have z2 : WData.weightAll ds ≤ 1048576 := z
    obtain ⟨A, h1, h2⟩ := area_all ds _ hall p fun d hd => Nat.le_trans (weight_mem hd) z2
    have k : ∀ b ∈ A, b ∈ a :: A := fun b hb => List.mem_cons_of_mem _ hb
    refine ⟨a :: A, List.mem_cons_self .., fun b hb => ?_⟩
    rcases List.mem_cons.mp hb with e | m
    · rw [e]
      exact ⟨vs, line_of (by rw [wellAll_len hall]; exact Nat.le_trans (PySem.W.length_le_weightAllW ds) z2), fun u hu => (h1 u hu).mono k, .inr ho⟩
    · exact (h2 b m).mono k
  | .float _, _, _, p, _ => Bool.noConfusion (show false = true from p)
  | .dict _, _, _, p, _ => Bool.noConfusion (show false = true from p)
  | .bytearray _, _, _, p, _ => Bool.noConfusion (show false = true from p)
  | .set _, _, _, p, _ => Bool.noConfusion (show false = true from p)
  | .frozenset _, _, _, p, _ => Bool.noConfusion (show false = true from p)
  | .obj _ _, _, _, p, _ => Bool.noConfusion (show false = true from p)
theorem area_all : ∀ (ds : List WData) (vs : List Value), WellAll P h vs ds → plWs ds = true → (∀ d ∈ ds, d.weight ≤ 1048576) → ∃ A : List Addr, (∀ u ∈ vs, OkU A u) ∧ ∀ a ∈ A, ArgOb h A a
  | [], _, x, _, _ => by
    cases x
    exact ⟨[], fun u m => absurd m (by simp), fun a m => absurd m (by simp)⟩
  | d :: ds, _, x, p, z => by
    obtain ⟨v, vs, rfl, x1, x2⟩ := well_cons x
    have q : plW d = true ∧ plWs ds = true := Bool.and_eq_true_iff.mp p
    obtain ⟨A, a1, a2⟩ := area_one d v x1 q.1 (z d (List.mem_cons_self ..))
    obtain ⟨B, b1, b2⟩ := area_all ds vs x2 q.2 fun e he => z e (List.mem_cons_of_mem _ he)
    have kA : ∀ b ∈ A, b ∈ A ++ B := fun b hb => List.mem_append.mpr (.inl hb)
    have kB : ∀ b ∈ B, b ∈ A ++ B := fun b hb => List.mem_append.mpr (.inr hb)
    refine ⟨A ++ B, fun u hu => ?_, fun b hb => ?_⟩
    · rcases List.mem_cons.mp hu with e | m
      · rw [e]
        exact a1.mono kA
      · exact (b1 u m).mono kB
    · rcases List.mem_append.mp hb with m | m
      · exact (a2 b m).mono kA
      · exact (b2 b m).mono kB
end
end
/-- what is tracked of an argument's object -/
def hoOf (o : Obj) : Option HO := match o.data with
  | .seq vs _ => if (o.cls == Value.type "list") = true then some (.frz o (.lst (vs.toList.map toV))) else some (.frz o (.tup (vs.toList.map toV)))
  | _ => none
def argH (K : PySem.W.Frag) (h : Heap) (A : List Addr) : Hp := fun b => if b ∈ A then (if (K.lookup b).isNone = true then (h.get? b).bind hoOf else none) else none
/-- nothing is tracked but what is known to the object -/
def OnlyF (H : Hp) : Prop := ∀ b, H b = none ∨ ∃ o u, H b = some (.frz o u)
theorem hoOf_lst (vs : List Value) : hoOf { cls := .type "list", data := .seq vs.toArray } = some (.frz { cls := .type "list", data := .seq vs.toArray } (.lst (vs.map toV))) := by
  show (if (Value.type "list" == Value.type "list") = true then some (HO.frz { cls := .type "list", data := .seq vs.toArray } (.lst (vs.toArray.toList.map toV))) else some (HO.frz { cls := .type "list", data := .seq vs.toArray } (.tup (vs.toArray.toList.map toV)))) = _
  rw [if_pos (beq_self_eq_true _)]
theorem hoOf_tup (vs : List Value) : hoOf { cls := .type "tuple", data := .seq vs.toArray } = some (.frz { cls := .type "tuple", data := .seq vs.toArray } (.tup (vs.map toV))) := by
  show (if (Value.type "tuple" == Value.type "list") = true then some (HO.frz { cls := .type "tuple", data := .seq vs.toArray } (.lst (vs.toArray.toList.map toV))) else some (HO.frz { cls := .type "tuple", data := .seq vs.toArray } (.tup (vs.toArray.toList.map toV)))) = _
  rw [if_neg (by decide)]
section
variable {P : Program} {w : World} {K : PySem.W.Frag} {h : Heap} {A : List Addr}
theorem argH_at {b : Addr} {o : Obj} (hb : b ∈ A) (hk : K.lookup b = none) (e : h.get? b = some o) : argH K h A b = hoOf o := by
  unfold argH
  rw [if_pos hb, hk, if_pos (show (none : Option Obj).isNone = true from rfl), e] <;> rfl
theorem of_argH {b : Addr} {u : HO} (q : argH K h A b = some u) : b ∈ A ∧ K.lookup b = none := by
  unfold argH at q
  by_cases hb : b ∈ A
  · rw [if_pos hb] at q
    cases hk : K.lookup b with
    | none => exact ⟨hb, rfl⟩
    | some o =>
      rw [hk, if_neg (by simp)] at q
      cases q
  · rw [if_neg hb] at q
    cases q
/-- what stands tracked -/
theorem argH_is (ar : ∀ a ∈ A, ArgOb h A a) {b : Addr} {u : HO} (q : argH K h A b = some u) : K.lookup b = none ∧ ∃ vs : List Value, vs.length ≤ sizeLine ∧ (∀ u ∈ vs, OkU A u) ∧
    ((h.get? b = some { cls := .type "list", data := .seq vs.toArray } ∧ u = .frz { cls := .type "list", data := .seq vs.toArray } (.lst (vs.map toV))) ∨
     (h.get? b = some { cls := .type "tuple", data := .seq vs.toArray } ∧ u = .frz { cls := .type "tuple", data := .seq vs.toArray } (.tup (vs.map toV)))) := by
  obtain ⟨hb, hk⟩ := of_argH q
  obtain ⟨vs, h1, h2, h3⟩ := ar b hb
  refine ⟨hk, vs, h1, h2, ?_⟩
  rcases h3 with e | e
  · rw [argH_at hb hk e, hoOf_lst] at q
    exact .inl ⟨e, (Option.some.inj q).symm⟩
  · rw [argH_at hb hk e, hoOf_tup] at q
    exact .inr ⟨e, (Option.some.inj q).symm⟩
theorem argH_only (ar : ∀ a ∈ A, ArgOb h A a) : OnlyF (argH K h A) := fun b => by
  cases q : argH K h A b with
  | none => exact .inl rfl
  | some u =>
    obtain ⟨_, vs, _, _, ⟨_, e⟩ | ⟨_, e⟩⟩ := argH_is ar q
    · exact .inr ⟨_, _, by rw [e]⟩
    · exact .inr ⟨_, _, by rw [e]⟩
theorem argH_ok (ar : ∀ a ∈ A, ArgOb h A a) : HOk P w (argH K h A) h := fun b u q => by
  obtain ⟨_, vs, h1, h2, ⟨e, rfl⟩ | ⟨e, rfl⟩⟩ := argH_is ar q
  · exact ⟨e, by rw [List.length_map]; exact h1, vs, _, vals_toV h2, e⟩
  · exact ⟨e, by rw [List.length_map]; exact h1, vs, vals_toV h2, _, e, rfl, _, rfl⟩
theorem seq_inj {c c' : Value} {vs us : List Value} (e : (some { cls := c, data := .seq vs.toArray } : Option Obj) = some { cls := c', data := .seq us.toArray }) : c = c' ∧ vs = us := by
  have e1 := Option.some.inj e
  have e2 : c = c' := congrArg Obj.cls e1
  have e3 : Data.seq vs.toArray = Data.seq us.toArray := congrArg Obj.data e1
  injection e3 with e4
  refine ⟨e2, ?_⟩
  have e5 := congrArg Array.toList e4
  simpa using e5
/-- a list argument -/
theorem argL (KX : K.In h) (ar : ∀ a ∈ A, ArgOb h A a) {a : Addr} {vs : List Value} (ha : a ∈ A) (e : h.get? a = some { cls := .type "list", data := .seq vs.toArray }) : (∀ u ∈ vs, OkU A u) ∧ SqL K (argH K h A) a (vs.map toV) := by
  obtain ⟨us, h1, h2, h3⟩ := ar a ha
  have hu : us = vs := by
    rcases h3 with q | q
    · rw [e] at q
      exact (seq_inj q).2.symm
    · rw [e] at q
      exact absurd (Value.type.inj (seq_inj q).1) (by decide)
  subst hu
  refine ⟨h2, ?_⟩
  cases hk : K.lookup a with
  | none => exact .inl (.inr ⟨_, by rw [argH_at ha hk e, hoOf_lst]⟩)
  | some o =>
    have e2 := KX a o hk
    rw [e] at e2
    obtain rfl := Option.some.inj e2
    exact .inr ⟨_, us.toArray, _, hk, rfl, rfl, rfl, by rw [List.size_toArray]; exact h1, by simpa using vals_toV h2⟩
theorem argT (KX : K.In h) (ar : ∀ a ∈ A, ArgOb h A a) {a : Addr} {vs : List Value} (ha : a ∈ A) (e : h.get? a = some { cls := .type "tuple", data := .seq vs.toArray }) : (∀ u ∈ vs, OkU A u) ∧ SqT K (argH K h A) a (vs.map toV) := by
  obtain ⟨us, h1, h2, h3⟩ := ar a ha
  have hu : us = vs := by
    rcases h3 with q | q
    · rw [e] at q
      exact absurd (Value.type.inj (seq_inj q).1) (by decide)
    · rw [e] at q
      exact (seq_inj q).2.symm
  subst hu
  refine ⟨h2, ?_⟩
  cases hk : K.lookup a with
  | none => exact .inl (.inr ⟨_, by rw [argH_at ha hk e, hoOf_tup]⟩)
  | some o =>
    have e2 := KX a o hk
    rw [e] at e2
    obtain rfl := Option.some.inj e2
    exact .inr ⟨_, us.toArray, _, hk, rfl, rfl, by rw [List.size_toArray]; exact h1, by simpa using vals_toV h2⟩
mutual
theorem dw_one {Pm : Params} (KX : K.In h) (ar : ∀ a ∈ A, ArgOb h A a) : ∀ (d : WData) (v : Value), Well Pm h v d → plW d = true → OkU A v → Dw K (argH K h A) (toV v) d
  | .none, _, x, _, _ => by
    cases x
    exact .non
  | .bool b, _, x, _, _ => by
    cases x
    exact .bl b
  | .int i, _, x, _, _ => by
    cases x
    exact .int i
  | .str s, _, x, _, _ => by
    cases x
    exact .str s
  | .bytes b, _, x, _, _ => by
    cases x
    have z := Dw.byt (K := K) (H := argH K h A) b.toArray
    exact z
  | .list ds, _, x, p, hu => by
    obtain ⟨a, vs, rfl, ho, hall⟩ := well_list x
    obtain ⟨h2, hs⟩ := argL KX ar hu ho
    exact .lst hs (dw_all KX ar ds _ hall p h2)
  | .tuple ds, _, x, p, hu => by
    obtain ⟨a, vs, rfl, ho, hall⟩ := well_tuple x
    obtain ⟨h2, hs⟩ := argT KX ar hu ho
    exact .tup hs (dw_all KX ar ds _ hall p h2)
  | .float _, _, _, p, _ => Bool.noConfusion (show false = true from p)
  | .dict _, _, _, p, _ => Bool.noConfusion (show false = true from p)
  | .bytearray _, _, _, p, _ => Bool.noConfusion (show false = true from p)
  | .set _, _, _, p, _ => Bool.noConfusion (show false = true from p)
  | .frozenset _, _, _, p, _ => Bool.noConfusion (show false = true from p)
  | .obj _ _, _, _, p, _ => Bool.noConfusion (show false = true from p)
theorem dw_all {Pm : Params} (KX : K.In h) (ar : ∀ a ∈ A, ArgOb h A a) : ∀ (ds : List WData) (vs : List Value), WellAll Pm h vs ds → plWs ds = true → (∀ u ∈ vs, OkU A u) → DwAll K (argH K h A) (vs.map toV) ds
  | [], _, x, _, _ => by
    cases x
    exact .nil
  | d :: ds, _, x, p, hu => by
    obtain ⟨v, vs, rfl, x1, x2⟩ := well_cons x
    have q : plW d = true ∧ plWs ds = true := Bool.and_eq_true_iff.mp p
    exact .cons (dw_one KX ar d v x1 q.1 (hu _ (List.mem_cons_self ..))) (dw_all KX ar ds vs x2 q.2 fun u m => hu u (List.mem_cons_of_mem _ m))
end
end
/-! ### the call -/
theorem spec_call {P : Program} {w : World} {K : PySem.W.Frag} {mg mb : Str → Option Value} {CX : CXT} {k : Nat} {fa : Addr} {fd : FuncData} {ps : List Str} {sp : Sp} {s₁ : Shared} {vals : List Value} {ds : List WData} {R : PySem.W.WRecords} {cl : Str → Option Addr} {d0 : WData}
    (KX : K.In s₁.heap) (hns : s₁.heap.Ns mainGlobals mg) (hb : s₁.heap.Ns builtinsNs mb) (hbb : ∀ x : Str, x ≠ "__name__" → mb x = bootBuiltins x) (hlim : s₁.heap.NoLimit) (hg : s₁.gens = #[])
    (hwl : WellAll w.params s₁.heap vals ds) (hpl : plWs ds = true) (hwt : ∀ d ∈ ds, d.weight ≤ 1048576) (hr : Room k callerA)
    (F : ∀ base : Heap, K.In base → base.Ns mainGlobals mg → FnOk P w K mg base CX k fa fd ps sp) (hbind : ∀ (s : Shared) (us : List Value), us.length = ps.length → BindsTo s fd ⟨us, []⟩ (ps.zip us)) (hlen : ds.length = ps.length)
    (hsp : ∀ (H : Hp) (xs : List V), OnlyF H → DwAll K H xs ds → sp xs H (fun v H' => Dw K H' v d0) fun _ _ _ => False)
    (hCX : ∀ H e s', CX [] H s₁ (fun _ _ _ => False) e s' → False) :
    codeAny (model P w) callerA (.call (.ref fa) ⟨vals, []⟩) (fun r s' => ∃ u as, r = .ok (.ret u) ∧ ReadsW R cl s'.heap u d0 as ∧ OldK s₁.heap s'.heap ∧ s'.os = s₁.os ∧ AllBare s'.gens) s₁ := by
  obtain ⟨A, ho, ar⟩ := area_all ds vals hwl hpl hwt
  have hO : OnlyF (argH K s₁.heap A) := argH_only ar
  have hok : HOk P w (argH K s₁.heap A) s₁.heap := argH_ok ar
  have hS := dw_all KX ar ds vals hwl hpl ho
  have hV := vals_toV ho
  have hK : ∀ b u, argH K s₁.heap A b = some u → K.lookup b = none := fun b u q => (argH_is ar q).1
  have noA : ∀ {b : Addr} {o : Obj} {es : Array DictEntry} {ep : Nat}, s₁.heap.get? b = some o → o.data = .dict es ep → argH K s₁.heap A b = none := fun {b o es ep} e d => by
    cases q : argH K s₁.heap A b with
    | none => rfl
    | some u =>
      obtain ⟨_, vs, _, _, ⟨e2, _⟩ | ⟨e2, _⟩⟩ := argH_is ar q
      · rw [e2] at e
        cases e
        have d' : Data.seq vs.toArray _ = Data.dict es ep := d
        cases d'
      · rw [e2] at e
        cases e
        have d' : Data.seq vs.toArray _ = Data.dict es ep := d
        cases d'
  generalize argH K s₁.heap A = H at hO hok hS hK noA
  have base_of : ∀ {b : Addr} {o : Obj}, s₁.heap.get? b = some o → H b = none → (hidT s₁.heap H).get? b = some o := fun e n => hidT_get e n
  have nsK : ∀ {b : Addr} {m : Str → Option Value}, s₁.heap.Ns b m → (hidT s₁.heap H).Ns b m := fun {b m} ⟨o, es, ep, e, d, r⟩ => ⟨o, es, ep, base_of e (noA e d), d, r⟩
  have nK : ∀ b o, K.lookup b = some o → H b = none := fun b o e => by
    cases q : H b with
    | none => rfl
    | some u =>
      rw [hK b u q] at e
      cases e
  have hKb : K.In (hidT s₁.heap H) := fun b o e => base_of (KX b o e) (nK b o e)
  have hM : Mod K mg (hidT s₁.heap H) := ⟨hKb, nsK hns, ⟨mb, nsK hb, hbb⟩, let ⟨mc, h1, h2⟩ := hlim; ⟨mc, nsK h1, h2⟩⟩
  have e0 : Env0 P w K mg (hidT s₁.heap H) callerA [] s₁ H := ⟨rfl, hM, fun b o e => of_hidT e, Nat.le_of_eq (hidT_size _ _), trivial, fun b hb => absurd (show b ∈ ([] : List Addr) from hb) (by simp), hok, .of_eq hg⟩
  have hl : vals.length = ps.length := by rw [wellAll_len hwl]; exact hlen
  refine codeAny_mono ((F _ hKb (nsK hns)).run callerA [] s₁ H ⟨vals, []⟩ vals (vals.map toV) _ _ hr e0 (hbind s₁ vals hl) hV (hsp H _ hO hS)) fun r s' x => ?_
  cases r with
  | error e => exact (hCX H e s' x).elim
  | ok fl =>
    cases fl with
    | next => exact False.elim x
    | brk => exact False.elim x
    | cont => exact False.elim x
    | ret u =>
      obtain ⟨v, H', os, bare, un, hok', r', q⟩ := x
      have kept : ∀ b o, s₁.heap.get? b = some o → s'.heap.get? b = some o := fun b o e => by
        cases q2 : H b with
        | none => exact un.keep b o e q2 (by intro z; exact absurd (show b ∈ ([] : List Addr) from z) (by simp)) (by simp)
        | some u2 =>
          rcases hO b with z | ⟨ob, u3, z⟩
          · rw [q2] at z
            cases z
          · have z2 := un.frzs b ob _ z
            obtain ⟨e1, _⟩ := hok b _ z
            obtain ⟨e2, _⟩ := hok' b _ z2
            rw [e] at e1
            cases e1
            exact e2
      have KX' : K.In s'.heap := fun b o e => kept b o (KX b o e)
      obtain ⟨as, hrd⟩ := Dw.reads (R := R) (cl := cl) hok' KX' d0 v u q r'
      exact ⟨u, as, rfl, hrd, OldK.of_keep kept, os, bare⟩
/-! ### the row -/
theorem layable_weight {ds : List WData} (h : WData.layableAll ds = true) : ∀ d ∈ ds, d.weight ≤ 1048576 := fun d hd =>
  (PySem.W.layableW_iff.mp (List.all_eq_true.mp h d hd)).2.2
theorem encAll_len : ∀ (cs : List Codec) (a : Codec.denoteAll cs), (Codec.encAll cs a).length = cs.length
  | [], _ => rfl
  | c :: cs, a => by
    show (Codec.encAll cs a.2).length + 1 = cs.length + 1
    rw [encAll_len cs a.2]
/-- the goal that k_headS leaves (case hc), from the promise of the row's def: whatever the arguments that the codecs let and the row asks for, the def gives what stands for enc (f ..) -/
theorem walk_spec {r : OpenSpec} {k : Nat} {q : Program} {loose : List Str} {XP : (Str → Option Value) → Heap → Prop} {YP : World → Heap → Prop} {d : DefRec} {K : Params → PySem.W.Frag} {CX : World → CXT} {ps : List Str} {sp : World → Sp}
    (hwell : r.wellSaid = true) (hdf : d.params.defaults = []) (hlen : r.args.length = ps.length) (hr : Room k callerA)
    (hY : ∀ (w : World) (h : Heap), YP w h → (K w.params).In h)
    (F : ∀ (w : World) (mg : Str → Option Value) (fa : Addr) (h : Heap), YP w h → (K w.params).In h → h.Ns mainGlobals mg → mg d.name = some (.ref fa) →
      ∃ fd : FuncData, (∀ (s : Shared) (us : List Value), us.length = ps.length → BindsTo s fd ⟨us, []⟩ (ps.zip us)) ∧
        ∀ base : Heap, (K w.params).In base → base.Ns mainGlobals mg → FnOk r.prog w (K w.params) mg base (CX w) k fa fd ps (sp w))
    (hsp : ∀ (w : World) (H : Hp) (xs : List V) (a : Codec.denoteAll r.args), OnlyF H → Codec.withinAll r.args a = true → Codec.app r.args r.asked a = true → DwAll (K w.params) H xs (Codec.encAll r.args a) →
      sp w xs H (fun v H' => Dw (K w.params) H' v (r.ret.enc (Codec.app r.args r.f a))) fun _ _ _ => False)
    (hCX : ∀ (w : World) (H : Hp) (s : Shared) (e : Value) (s' : Shared), CX w [] H s (fun _ _ _ => False) e s' → False) :
    PySem.W.WalkOS q loose XP YP r d [] (fun f vs => PySem.call f vs) := by
  intro w s_0 s₁ mg mb G Y fa o pm cd doc dV kV ho hd hcd hD hmg hg args vals as hpre hlay hrd hwl hlo
  obtain ⟨a, e1, e2⟩ := PySem.W.os_pre_some hpre
  obtain ⟨e3, hwi⟩ := Codec.encAll_of_decAll r.args args a e1
  subst e3
  have KX := hY w _ Y
  obtain ⟨fd, hb, hF⟩ := F w mg fa _ Y KX G.T.g hmg
  refine PySem.W.enter_call (codeAny_mono (spec_call (R := []) (cl := classAt s_0.heap) (d0 := r.ret.enc (Codec.app r.args r.f a)) KX G.T.g G.T.b G.T.builtins G.T.nolimit hg hwl (pl_encAll _ _) (layable_weight hlay) hr hF hb (by rw [encAll_len]; exact hlen)
    (fun H xs hO hS => hsp w H xs a hO hwi e2 hS) fun H e s' => hCX w H s₁ e s') fun r' s' hq => ?_)
  obtain ⟨u, as', rfl, h1, h2, h3, h4⟩ := hq
  exact ⟨.inl ⟨u, _, as', rfl, fun _ => rfl, h1, (OpenSpec.post_iff hwell hwi _ _).mpr rfl, fun z => Bool.noConfusion (show false = true from z)⟩, h2, h3, h4⟩
/-- the same where the promise hangs on the written part alone -/
theorem walk_specK {r : OpenSpec} {k : Nat} {q : Program} {loose : List Str} {XP : (Str → Option Value) → Heap → Prop} {YP : World → Heap → Prop} {d : DefRec} {K : Params → PySem.W.Frag} {CX : CXT} {ps : List Str} {sp : PySem.W.Frag → Sp}
    (hwell : r.wellSaid = true) (hdf : d.params.defaults = []) (hlen : r.args.length = ps.length) (hr : Room k callerA)
    (hY : ∀ (w : World) (h : Heap), YP w h → (K w.params).In h)
    (F : ∀ (w : World) (mg : Str → Option Value) (fa : Addr) (h : Heap), YP w h → (K w.params).In h → h.Ns mainGlobals mg → mg d.name = some (.ref fa) →
      ∃ fd : FuncData, (∀ (s : Shared) (us : List Value), us.length = ps.length → BindsTo s fd ⟨us, []⟩ (ps.zip us)) ∧
        ∀ base : Heap, (K w.params).In base → base.Ns mainGlobals mg → FnOk r.prog w (K w.params) mg base CX k fa fd ps (sp (K w.params)))
    (hsp : ∀ (K : PySem.W.Frag) (H : Hp) (xs : List V) (a : Codec.denoteAll r.args), OnlyF H → Codec.withinAll r.args a = true → Codec.app r.args r.asked a = true → DwAll K H xs (Codec.encAll r.args a) →
      sp K xs H (fun v H' => Dw K H' v (r.ret.enc (Codec.app r.args r.f a))) fun _ _ _ => False)
    (hCX : ∀ (H : Hp) (s : Shared) (e : Value) (s' : Shared), CX [] H s (fun _ _ _ => False) e s' → False) :
    PySem.W.WalkOS q loose XP YP r d [] (fun f vs => PySem.call f vs) :=
  walk_spec (K := K) (CX := fun _ => CX) (sp := fun w => sp (K w.params)) hwell hdf hlen hr hY F (fun w H xs a h1 h2 h3 h4 => hsp (K w.params) H xs a h1 h2 h3 h4) fun _ H s e s' => hCX H s e s'
end L2
-- rests on (row put in by the clerk, for the bench that shows a file only what it spells): KE.SpHead KE.OsShapes
end

/-! Readings of the layer's terms, one lemma a term: the goal is «term σ H Q», the premise what is left to show. -/
namespace L3
open PySem PySem.Spec PyProof.Rows L2
abbrev Sig := L2.St
section
variable {σ : Sig} {H : Hp} {Q : VK} {K : PySem.W.Frag}
theorem R_var {i : Nat} {v : V} (h : σ[i]? = some (some v)) (q : Q v H) : tVar i σ H Q := ⟨v, h, q⟩
theorem R_C {v : V} (q : Q v H) : tC v σ H Q := q
theorem R_op {r : R2} {ta tb : TE} (h : ta σ H fun x H1 => tb σ H1 fun y H2 => r x y H2 Q) : tOp r ta tb σ H Q := h
theorem R_un {r : V → Hp → VK → Prop} {ta : TE} (h : ta σ H fun x H1 => r x H1 Q) : tUn r ta σ H Q := h
theorem R_rU {g : Int → V} {i : Int} (q : Q (g i) H) : rU g (.int i) H Q := ⟨i, rfl, q⟩
theorem R_rI0 {g : Int → Int → V} {i j : Int} (q : Q (g i j) H) : rI0 g (.int i) (.int j) H Q := ⟨i, j, rfl, rfl, q⟩
theorem R_rI {C : Int → Int → Prop} {g : Int → Int → V} {i j : Int} (hc : C i j) (q : Q (g i j) H) : rI C g (.int i) (.int j) H Q := ⟨i, j, rfl, rfl, hc, q⟩
theorem dec_i {i j : Int} : decide (V.int i = V.int j) = decide (i = j) := decide_eq_decide.mpr ⟨fun e => V.int.inj e, fun e => by rw [e]⟩
theorem R_rEq {i j : Int} (q : Q (.bl (decide (i = j))) H) : rEq (.int i) (.int j) H Q := ⟨rfl, by rw [dec_i]; exact q⟩
theorem R_rNe {i j : Int} (q : Q (.bl (!decide (i = j))) H) : rNe (.int i) (.int j) H Q := ⟨rfl, by rw [dec_i]; exact q⟩
/-- is None, is not None -/
def rIsN : R2 := fun x y H Q => y = .non ∧ Q (.bl (decide (x = .non))) H
def rNotN : R2 := fun x y H Q => y = .non ∧ Q (.bl (!decide (x = .non))) H
theorem R_isN {x : V} (q : Q (.bl (decide (x = .non))) H) : rIsN x .non H Q := ⟨rfl, q⟩
theorem R_notN {x : V} (q : Q (.bl (!decide (x = .non))) H) : rNotN x .non H Q := ⟨rfl, q⟩
theorem R_test {t : TE} {Q : Bool → Hp → Prop} (h : t σ H fun x H1 => ∃ k, x = .bl k ∧ Q k H1) : tTest t σ H Q := h
theorem R_B {t : TE} {Q : Bool → Hp → Prop} (h : t σ H fun x H1 => ∃ k, x = .bl k ∧ Q k H1) : tB t σ H Q := h
theorem R_isbl {c : Bool} {Q : Bool → Prop} (q : Q c) : ∃ k, V.bl c = .bl k ∧ Q k := ⟨c, rfl, q⟩
theorem R_or {t u : TT} {Q : Bool → Hp → Prop} (h : t σ H fun c H1 => if c = true then Q true H1 else u σ H1 Q) : tOr t u σ H Q := h
theorem R_and {t u : TT} {Q : Bool → Hp → Prop} (h : t σ H fun c H1 => if c = true then u σ H1 Q else Q false H1) : tAnd t u σ H Q := h
theorem R_not {t : TT} {Q : Bool → Hp → Prop} (h : t σ H fun c H1 => Q (!c) H1) : tNot t σ H Q := h
theorem R_andV {t u : TE} (h : t σ H fun x H1 => ∃ c, x = .bl c ∧ if c = true then u σ H1 Q else Q (.bl false) H1) : tAndV t u σ H Q := h
theorem R_orV {t u : TE} (h : t σ H fun x H1 => ∃ c, x = .bl c ∧ if c = true then Q (.bl true) H1 else u σ H1 Q) : tOrV t u σ H Q := h
theorem R_notV {t : TE} (h : t σ H fun x H1 => ∃ c, x = .bl c ∧ Q (.bl (!c)) H1) : tNotV t σ H Q := h
theorem R_ifE {t : TT} {ta tb : TE} (h : t σ H fun c H1 => if c = true then ta σ H1 Q else tb σ H1 Q) : tIf t ta tb σ H Q := h
/-- a chain of two comparisons of whole numbers -/
theorem R_chain {r r' : R2} {ta tb tc : TE} (h : ta σ H fun x H1 => tb σ H1 fun y H2 => r x y H2 fun z H3 => ∃ k, z = .bl k ∧ if k = true then tc σ H3 fun u H4 => r' y u H4 Q else Q (.bl false) H3) : tChain r r' ta tb tc σ H Q := h
theorem R_cb {r : List V → Hp → VK → Prop} {t : TA} (h : t σ H fun vs H1 => r vs H1 Q) : tCB r t σ H Q := h
theorem R_cons {ta : TE} {tr : TA} {Q : List V → Hp → Prop} (h : ta σ H fun x H1 => tr σ H1 fun xs H2 => Q (x :: xs) H2) : tCons ta tr σ H Q := h
theorem R_nil {Q : List V → Hp → Prop} (h : Q [] H) : tNil σ H Q := h
/-- a new object is laid -/
def Laid (Q : VK) (o : HO) (H : Hp) : Prop := ∀ p, H p = none → Q (.ref p) (upd H p o)
theorem R_laid {o : HO} (k : ∀ (l : Addr) (H2 : Hp), H l = none → Same H H2 → H2 l = some o → Q (.ref l) H2) : Laid Q o H := fun p hp =>
  k p _ hp (fun b u e => by rw [upd_ne (ne_of_none e hp)]; exact e) upd_same
theorem R_tup {t : TA} (h : t σ H fun xs H1 => xs.length ≤ sizeLine ∧ Laid Q (.tup xs) H1) : tTup t σ H Q := h
theorem R_lst {t : TA} (h : t σ H fun xs H1 => xs.length ≤ sizeLine ∧ Laid Q (.lst xs) H1) : tLst t σ H Q := h
/-- an own def called by its promise -/
def tOwn (sp : Sp) (t : TA) : TE := fun σ H Q => t σ H fun vs H1 => sp vs H1 Q E0
theorem R_own {sp : Sp} {t : TA} (h : t σ H fun vs H1 => sp vs H1 Q E0) : tOwn sp t σ H Q := h
/-- len of a list or a tuple -/
def rLen (K : PySem.W.Frag) : List V → Hp → VK → Prop := fun xs H Q => ∃ p ys, xs = [.ref p] ∧ (SqL K H p ys ∨ SqT K H p ys) ∧ Q (.int ys.length) H
theorem R_len {p : Addr} {ys : List V} (h : SqL K H p ys) (q : Q (.int ys.length) H) : rLen K [.ref p] H Q := ⟨p, ys, rfl, .inl h, q⟩
/-- tuple(xs), list(xs) -/
def rTup (K : PySem.W.Frag) : List V → Hp → VK → Prop := fun xs H Q => ∃ p ys, xs = [.ref p] ∧ ((SqL K H p ys ∧ ∀ l, H l = none → Q (.ref l) (upd H l (.tup ys))) ∨ (SqT K H p ys ∧ Q (.ref p) H))
theorem R_toTup {p : Addr} {ys : List V} (h : SqL K H p ys) (q : Laid Q (.tup ys) H) : rTup K [.ref p] H Q := ⟨p, ys, rfl, .inl ⟨h, q⟩⟩
def rLst (K : PySem.W.Frag) : List V → Hp → VK → Prop := fun xs H Q => ∃ p ys, xs = [.ref p] ∧ (SqL K H p ys ∨ SqT K H p ys) ∧ ∀ l, H l = none → Q (.ref l) (upd H l (.lst ys))
theorem R_toLst {p : Addr} {ys : List V} (h : SqL K H p ys) (q : Laid Q (.lst ys) H) : rLst K [.ref p] H Q := ⟨p, ys, rfl, .inl h, q⟩
theorem R_toLstT {p : Addr} {ys : List V} (h : SqT K H p ys) (q : Laid Q (.lst ys) H) : rLst K [.ref p] H Q := ⟨p, ys, rfl, .inr h, q⟩
def rMin2 : List V → Hp → VK → Prop := fun xs H Q => ∃ i j, xs = [.int i, .int j] ∧ Q (.int (if j < i then j else i)) H
theorem R_min2 {i j : Int} (q : Q (.int (if j < i then j else i)) H) : rMin2 [.int i, .int j] H Q := ⟨i, j, rfl, q⟩
def rMax2 : List V → Hp → VK → Prop := fun xs H Q => ∃ i j, xs = [.int i, .int j] ∧ Q (.int (if j > i then j else i)) H
theorem R_max2 {i j : Int} (q : Q (.int (if j > i then j else i)) H) : rMax2 [.int i, .int j] H Q := ⟨i, j, rfl, q⟩
/-- an item -/
theorem R_ixL {p : Addr} {xs : List V} {i : Int} {v : V} (h : SqL K H p xs) (e : atI xs i = some v) (q : Q v H) : rIxL K (.ref p) (.int i) H Q := ⟨p, xs, i, v, rfl, rfl, h, e, q⟩
/-- a slice -/
theorem R_sl {r : V → Option Int → Option Int → Hp → VK → Prop} {te : TE} {tl th : TO} (h : te σ H fun x H1 => tl σ H1 fun l H2 => th σ H2 fun u H3 => r x l u H3 Q) : tSl r te tl th σ H Q := h
theorem R_noPart {Q : Option Int → Hp → Prop} (h : Q none H) : tNoPart σ H Q := h
theorem R_part {t : TE} {Q : Option Int → Hp → Prop} (h : t σ H fun x H1 => ∃ i, x = .int i ∧ Q (some i) H1) : tPart t σ H Q := h
theorem R_isint {c : Int} {Q : Int → Prop} (q : Q c) : ∃ k, V.int c = .int k ∧ Q k := ⟨c, rfl, q⟩
theorem R_slL {p : Addr} {xs : List V} {lo hi : Option Int} (h : SqL K H p xs) (q : Laid Q (.lst (cutV xs lo hi)) H) : rSlL K (.ref p) lo hi H Q := ⟨p, xs, rfl, h, q⟩
/-- != of two tuples of whole numbers -/
theorem dpAll_ints : ∀ ns : List Int, DpAll K H (ns.map V.int) (ns.map PyData.int)
  | [] => .nil
  | n :: r => .cons (.int n) (dpAll_ints r)
theorem eqvAll_ints : ∀ ns ms : List Int, PyData.eqvAll (ns.map PyData.int) (ms.map PyData.int) = decide (ns = ms)
  | [], [] => rfl
  | [], _ :: _ => rfl
  | _ :: _, [] => rfl
  | x :: r, y :: s => by
    have e : PyData.eqvAll ((x :: r).map PyData.int) ((y :: s).map PyData.int) = ((x == y) && PyData.eqvAll (r.map PyData.int) (s.map PyData.int)) := rfl
    rw [e, eqvAll_ints r s]
    by_cases h : x = y
    · subst h
      by_cases h2 : r = s
      · subst h2; simp
      · simp [h2]
    · simp [h]
/-- a method of a built-in value -/
theorem R_bm {T : String} {r : V → List V → Hp → VK → Prop} {to : TE} {t : TA} (h : to σ H fun x H1 => tyV K T x H1 ∧ t σ H1 fun xs H2 => r x xs H2 Q) : tBM K T r to t σ H Q := h
theorem R_bm0 {T : String} {r : V → List V → Hp → VK → Prop} {to : TE} (h : to σ H fun x H1 => tyV K T x H1 ∧ r x [] H1 Q) : tBM0 K T r to σ H Q := h
theorem ty_list {p : Addr} {xs : List V} (h : SqL K H p xs) : tyV K "list" (.ref p) H := .inl ⟨rfl, xs, h⟩
theorem R_append {l : Addr} {xs : List V} {y : V} (h : H l = some (.lst xs)) (z : xs.length < sizeLine) (q : Q .non (upd H l (.lst (xs ++ [y])))) : rAppend (.ref l) [y] H Q := ⟨l, xs, y, rfl, rfl, h, z, q⟩
theorem R_cat {l b : Addr} {xs zs : List V} (h : H l = some (.lst xs)) (h' : H b = some (.lst zs)) (z : xs.length + zs.length ≤ sizeLine) (q : Laid Q (.lst (xs ++ zs)) H) : rCat (.ref l) (.ref b) H Q := ⟨l, b, xs, zs, rfl, rfl, h, h', z, q⟩
/-! statements -/
theorem R_seq {t u : TS} {D : Ends} (h : t { D with nx := u D } σ H) : tSeq t u D σ H := h
theorem R_if {c : TT} {t u : TS} {D : Ends} (h : c σ H fun b H1 => if b = true then t D σ H1 else u D σ H1) : tIfS c t u D σ H := h
theorem R_ret {te : TE} {D : Ends} (h : te σ H D.rt) : tRet te D σ H := h
theorem R_retN {D : Ends} (h : D.rt .non H) : tRetN D σ H := h
theorem R_next {D : Ends} (h : D.nx σ H) : tNext D σ H := h
theorem R_cont {D : Ends} (h : D.ct σ H) : tCont D σ H := h
theorem R_break {D : Ends} (h : D.bk σ H) : tBreak D σ H := h
theorem R_drop {te : TE} {D : Ends} (h : te σ H fun _ H1 => D.nx σ H1) : tDrop te D σ H := h
theorem R_asg {te : TE} {g : TG} {D : Ends} (h : te σ H fun x H1 => g x σ H1 D.nx) : tAsg te g D σ H := h
theorem R_name {i : Nat} {v : V} {Q : Sig → Hp → Prop} (h : Q (σ.set i (some v)) H) : gName i v σ H Q := h
theorem R_sub {to ti : TE} {t : TSet} {v : V} {Q : Sig → Hp → Prop} (h : to σ H fun o H1 => ti σ H1 fun i H2 => t o i v H2 fun H3 => Q σ H3) : gSub to ti t v σ H Q := h
end
section
variable {X : Cx}
theorem op_notN' : OpR X (compareOp .IsNot) rNotN := op_notN
theorem cr_len : CallR X (.builtin "len") (rLen X.K) := call_len_seq
theorem cr_lst : CallR X (.type "list") (rLst X.K) := call_list_of
theorem cr_min2 (hc : X.calm = true) : CallR X (.builtin "min") rMin2 := call_min2 hc
/-- a whole number of the file's top -/
theorem pe_gint {x : Str} {v : Int} {pos : Pos} (hm : ∃ t, X.mg x = some (.int v t)) (hg : Gl X x := by rfl) (hd : (x == ("__debug__" : Str)) = false := by decide) : PE X (.Name x pos) (tC (.int v)) := by
  obtain ⟨t, hm⟩ := hm
  exact pe_glob hg hm ⟨t, rfl⟩ hd
theorem pe_gref {x : Str} {a : Addr} {pos : Pos} (hm : X.mg x = some (.ref a)) (hg : Gl X x := by rfl) (hd : (x == ("__debug__" : Str)) = false := by decide) : PE X (.Name x pos) (tC (.ref a)) := pe_glob hg hm rfl hd
end
/-- an own def as a caller meets it -/
structure Cal (P : Program) (w : World) (K : PySem.W.Frag) (mg : Str → Option Value) (base : Heap) (x : Str) (k : Nat) (ps : List Str) (sp : Sp) : Prop where
  ex : ∃ (f : Addr) (fd : FuncData), FnOk P w K mg base CX0 k f fd ps sp ∧ mg x = some (.ref f) ∧ PySem.W.keepIn K (.ref f) = true ∧ Binds K fd ps []
section
variable {X : Cx} {k : Nat} {ps : List Str} {sp : Sp} {x : Str} {p pos : Pos} {e : Expr} {es : List Expr} {t : TA}
theorem pe_own (C : Cal X.prog X.w X.K X.mg X.base x k ps sp) (hr : Room k X.A) (ha : PA X (e :: es) t) (hg : Gl X x := by rfl) (hdb : (x == ("__debug__" : Str)) = false := by decide)
    (he : starEach (e :: es) X.env = (false, eval e X.env) :: starEach es X.env := by rfl) (hpl : (backTo pos (starEach es X.env)).any (·.1) = false := by rfl) : PE X (.Call (.Name x p) (e :: es) [] pos) (tOwn sp t) := by
  obtain ⟨f, fd, F, hm, hk, hb⟩ := C.ex
  have h := pe_call (p := p) F hr hg hm hk hb .nil pass0 ha hdb he hpl
  intro pins s σ H Q I q
  refine h pins s σ H Q I ?_
  have e1 : tCall sp [] E0 t = tOwn sp t := by
    funext σ H Q
    show (t σ H fun vs H1 => sp (vs ++ []) H1 Q E0) = _
    simp only [List.append_nil]
    rfl
  rw [e1]
  exact q
end
end L3
namespace L3
open PySem PySem.Spec PyProof.Rows L2
section
variable {σ : Sig} {H : Hp} {Q : VK} {K : PySem.W.Frag}
theorem sq_up {a l : Addr} {xs : List V} {o : HO} (h : SqL K H a xs) (hl : H l = none) : SqL K (upd H l o) a xs := by
  refine Same.seq (fun b u e => ?_) h
  rw [upd_ne (ne_of_none e hl)]
  exact e
theorem same_up {l : Addr} {o : HO} (hl : H l = none) : Same H (upd H l o) := fun b u e => by
  rw [upd_ne (ne_of_none e hl)]
  exact e
theorem sqT_same {H' : Hp} {a : Addr} {xs : List V} (e : Same H H') (h : SqT K H a xs) : SqT K H' a xs := by
  rcases h with (h | ⟨o, h⟩) | h
  · exact .inl (.inl (e _ _ h))
  · exact .inl (.inr ⟨o, e _ _ h⟩)
  · exact .inr h
theorem ite_dec {p A B : Prop} [Decidable p] (h1 : p → A) (h2 : ¬ p → B) : if decide p = true then A else B := by
  by_cases h : p
  · rw [if_pos (decide_eq_true h)]; exact h1 h
  · rw [if_neg (by rw [decide_eq_false h]; decide)]; exact h2 h
theorem ite_ndec {p A B : Prop} [Decidable p] (h1 : ¬ p → A) (h2 : p → B) : if (!decide p) = true then A else B := by
  by_cases h : p
  · rw [if_neg (by rw [decide_eq_true h]; decide)]; exact h2 h
  · rw [if_pos (by rw [decide_eq_false h]; rfl)]; exact h1 h
theorem atI_ints {ns : List Int} {i : Int} (h0 : 0 ≤ i) (h1 : i < ns.length) : atI (ns.map V.int) i = some (.int (ns.getD i.toNat 0)) := by
  have e : i = (i.toNat : Int) := by omega
  have l : i.toNat < ns.length := by omega
  refine at_of e ?_
  rw [List.getElem?_map, List.getD_eq_getElem?_getD, List.getElem?_eq_getElem l]
  rfl
theorem R_ixI {p : Addr} {ns : List Int} {i : Int} (h : SqL K H p (ns.map V.int)) (q : Q (.int (ns.getD i.toNat 0)) H) (h0 : 0 ≤ i) (h1 : i < ns.length) : rIxL K (.ref p) (.int i) H Q := R_ixL h (atI_ints h0 h1) q
theorem R_few {xs : List V} {P : Prop} (h : xs.length ≤ 64) (k : P) : xs.length ≤ sizeLine ∧ P := ⟨Nat.le_trans h (by rw [sizeLine_eq]; decide), k⟩
theorem R_lenI {p : Addr} {ns : List Int} (h : SqL K H p (ns.map V.int)) (q : Q (.int (ns.length : Int)) H) : rLen K [.ref p] H Q := R_len h (by rw [List.length_map]; exact q)
theorem R_rIm {C : Int → Int → Prop} {g : Int → Int → V} {i j : Int} (q : Q (g i j) H) (hc : C i j) : rI C g (.int i) (.int j) H Q := R_rI hc q
theorem lay_ints : ∀ ns : List Int, PyData.canLayAll0 (ns.map PyData.int) = true
  | [] => rfl
  | _ :: r => by simp [PyData.canLayAll0, PyData.canLay0, lay_ints r]
theorem deep_ints : ∀ ns : List Int, PyData.depthAll (ns.map PyData.int) ≤ 1
  | [] => by simp [PyData.depthAll]
  | _ :: r => by
    have := deep_ints r
    simp only [List.map_cons, PyData.depthAll, PyData.depth]
    omega
theorem shaped_tup (l : List Int) : SeqAt.shaped (PyData.tuple (l.map PyData.int)) = true := by
  have := deep_ints l
  simp only [SeqAt.shaped, PyData.canLay0, PyData.depth, lay_ints, Bool.true_and]
  exact decide_eq_true (by omega)
end
end L3
namespace L3
open PySem PySem.Spec PyProof.Rows L2
section
variable {σ : Sig} {H : Hp} {Q : VK} {K : PySem.W.Frag} {g : TG} {tb : TS} {D : Ends}
theorem cmul {i j : Int} (h : -1000000000 ≤ i ∧ i ≤ 1000000000) : CMul i j := .inl ⟨by omega, by omega⟩
theorem cmul2 {i j : Int} (h : -1000000000 ≤ j ∧ j ≤ 1000000000) : CMul i j := .inr ⟨by omega, by omega⟩
/-! ### loops -/
def Loop (J : It) (g : TG) (tb : TS) (D : Ends) (σ : Sig) (H : Hp) : Prop := ∃ W : Nat → Nat → Sig → Hp → Prop, (∃ m, W 0 m σ H) ∧ ∀ i m σ H, W i m σ H →
  (J.stop i H ∧ D.nx σ H) ∨ (J.go i H ∧ ∃ N : Sig → Hp → Prop, (∀ σ' H', N σ' H' → ∃ m', m' < m ∧ W (i + 1) m' σ' H') ∧ ∀ x H', J.yld i H x H' → g x σ H' fun σ2 H2 => tb { D with nx := N, ct := N, bk := D.nx } σ2 H2)
theorem R_for {wi : TI} (h : wi σ H fun J H1 => Loop J g tb D σ H1) : tFor wi g tb D σ H := h
theorem R_iRng1 {ta : TA} {R : It → Hp → Prop} (h : ta σ H fun vs H1 => ∃ j : Int, vs = [.int j] ∧ -(2 ^ 62) ≤ j ∧ j < 2 ^ 62 ∧ R (Itr 0 j.toNat) H1) : iRng1 ta σ H R := h
theorem R_iRng2 {ta : TA} {R : It → Hp → Prop} (h : ta σ H fun vs H1 => ∃ i j : Int, vs = [.int i, .int j] ∧ (-(2 ^ 62) ≤ i ∧ i < 2 ^ 62 ∧ -(2 ^ 62) ≤ j ∧ j < 2 ^ 62) ∧ R (Itr i (j - i).toNat) H1) : iRng2 ta σ H R := h
theorem R_rng1 {j : Int} (k : Loop (Itr 0 j.toNat) g tb D σ H) (h0 : -(2 ^ 62) ≤ j) (h1 : j < 2 ^ 62) : ∃ i : Int, ([V.int j] : List V) = [.int i] ∧ -(2 ^ 62) ≤ i ∧ i < 2 ^ 62 ∧ Loop (Itr 0 i.toNat) g tb D σ H := ⟨j, rfl, h0, h1, k⟩
theorem R_rng2 {lo hi : Int} (k : Loop (Itr lo (hi - lo).toNat) g tb D σ H) (h : -(2 ^ 62) ≤ lo ∧ lo < 2 ^ 62 ∧ -(2 ^ 62) ≤ hi ∧ hi < 2 ^ 62) :
    ∃ i j : Int, ([V.int lo, V.int hi] : List V) = [.int i, .int j] ∧ (-(2 ^ 62) ≤ i ∧ i < 2 ^ 62 ∧ -(2 ^ 62) ≤ j ∧ j < 2 ^ 62) ∧ Loop (Itr i (j - i).toNat) g tb D σ H := ⟨lo, hi, rfl, h, k⟩
theorem R_iTup {tl : TE} {R : It → Hp → Prop} (h : tl σ H fun x H1 => ∃ a, x = .ref a ∧ (∃ xs, SqT K H1 a xs) ∧ R (Itt K a) H1) : iTup K tl σ H R := h
theorem R_iLst {tl : TE} {R : It → Hp → Prop} (h : tl σ H fun x H1 => ∃ a, x = .ref a ∧ (∃ xs, SqL K H1 a xs) ∧ R (Itl K a) H1) : iList K tl σ H R := h
theorem R_itT {a : Addr} {xs : List V} (h : SqT K H a xs) (k : Loop (Itt K a) g tb D σ H) : ∃ b, V.ref a = .ref b ∧ (∃ xs, SqT K H b xs) ∧ Loop (Itt K b) g tb D σ H := ⟨a, rfl, ⟨xs, h⟩, k⟩
theorem R_itL {a : Addr} {xs : List V} (h : SqL K H a xs) (k : Loop (Itl K a) g tb D σ H) : ∃ b, V.ref a = .ref b ∧ (∃ xs, SqL K H b xs) ∧ Loop (Itl K b) g tb D σ H := ⟨a, rfl, ⟨xs, h⟩, k⟩
end
end L3
namespace L3
open PySem PySem.Spec PyProof.Rows L2
open PySem.W (WData Codec)
/-! ### the request's arguments -/
theorem dw_lst {K : PySem.W.Frag} {H : Hp} {v : V} {ns : List Int} (h : Dw K H v (.list (ns.map WData.int))) : ∃ a, v = .ref a ∧ SqL K H a (ns.map V.int) := by
  cases h with
  | lst hs ha =>
    have e := ints_dw ns _ ha
    subst e
    exact ⟨_, rfl, hs⟩
theorem dwAll_cons {K : PySem.W.Frag} {H : Hp} {xs : List V} {d : WData} {ds : List WData} (h : DwAll K H xs (d :: ds)) : ∃ v vs, xs = v :: vs ∧ Dw K H v d ∧ DwAll K H vs ds := by
  cases h with
  | cons h1 h2 => exact ⟨_, _, rfl, h1, h2⟩
theorem dwAll_nil {K : PySem.W.Frag} {H : Hp} {xs : List V} (h : DwAll K H xs []) : xs = [] := by
  cases h
  rfl
theorem in_int {lo hi i : Int} (h : Codec.inInt lo hi i = true) : lo ≤ i ∧ i ≤ hi := by
  unfold Codec.inInt at h
  simpa using h
theorem in_list {least most : Nat} {lo hi : Int} {l : List Int} (h : (Codec.inLen least most l && l.all (Codec.inInt lo hi)) = true) : l.length ≤ most ∧ ∀ x ∈ l, lo ≤ x ∧ x ≤ hi := by
  rw [Bool.and_eq_true] at h
  refine ⟨(Codec.inNat_iff.mp h.1).2, fun x m => in_int (List.all_eq_true.mp h.2 x m)⟩
end L3

/-! The panel's bytes as whole numbers, and what the specification says of them. -/
namespace Il
open Plait
def Byt (b : List Int) : Prop := ∀ x ∈ b, 0 ≤ x ∧ x ≤ 255
def bOf (b : List Int) : Bytes := b.map fun (n : Int) => UInt8.ofNat n.toNat
theorem text_of {b : List Int} (h : Byt b) : PlaitNeutral.text? b = some (bOf b) := by
  unfold PlaitNeutral.text? NeutralIO.bytes
  rw [if_pos]
  · rfl
  · rw [List.all_eq_true]
    intro x hx
    obtain ⟨h0, h1⟩ := h x hx
    simp [h0, h1]
theorem bOf_len (b : List Int) : (bOf b).length = b.length := List.length_map _
/-- an answer as a list of whole numbers -/
def told (a : Reply) : List Int := a.ret :: ((a.nums.map fun (n : Nat) => (n : Int)) ++ a.bytes.map fun (b : UInt8) => (b.toNat : Int))
theorem f_told {c : PlaitNeutral.Call} {x : PlaitP.Call} (h : PlaitNeutral.callOf c = some x) : PlaitNeutral.f c = told (PlaitP.answer x) := by
  unfold PlaitNeutral.f
  rw [h]
  rfl
end Il
namespace Il
open Plait
/-! ### the calls of stage 1 -/
/-! squares -/
/-! set -/
theorem told_gives (x : Bytes) : told (gives x) = ((x.map (fun (c : UInt8) => (c.toNat : Int))).length : Int) :: x.map (fun (c : UInt8) => (c.toNat : Int)) := by
  rw [List.length_map]
  rfl
/-! place -/
end Il

/-! Ends are joined two by two: the specification's own joined. -/
namespace Plait
/-! ends by square, side, and which -/
end Plait

/-! Courses: each piece is of one strand; a course goes round once. -/
namespace Plait
section
variable (D : Panel)
/-! ### pieces of one strand -/
/-! ### the least piece -/
end
end Plait

namespace L3
open PySem PySem.Spec PyProof.Rows L2
section
variable {σ : Sig} {H : Hp} {Q : VK} {K : PySem.W.Frag} {g : TG} {tb : TS} {D : Ends}
/-! ### loops over any walk of n turns -/
theorem loop_any {J : It} (n : Nat) (Pv : Nat → Sig → Hp → Prop) (h0 : Pv 0 σ H)
    (hs : ∀ i σ H, i < n → Pv i σ H → J.go i H ∧ ∀ x H', J.yld i H x H' → g x σ H' fun σ2 H2 => tb { D with nx := Pv (i + 1), ct := Pv (i + 1), bk := D.nx } σ2 H2)
    (hd : ∀ σ H, Pv n σ H → J.stop n H ∧ D.nx σ H) : Loop J g tb D σ H := by
  refine ⟨fun i m σ H => m = n - i ∧ i ≤ n ∧ Pv i σ H, ⟨n, by simp, Nat.zero_le _, h0⟩, ?_⟩
  rintro i m σ H ⟨rfl, hi, p⟩
  by_cases hlt : i < n
  · obtain ⟨a, b⟩ := hs i σ H hlt p
    exact .inr ⟨a, Pv (i + 1), fun σ' H' p' => ⟨n - (i + 1), by omega, rfl, hlt, p'⟩, b⟩
  · have e : i = n := by omega
    subst e
    exact .inl (hd σ H p)
/-- enumerate(xs), a list that the loop leaves as it is -/
theorem loop_enum {a : Addr} {xs : List V} (Pv : Nat → Sig → Hp → Prop) (h0 : Pv 0 σ H) (hl : ∀ i σ H, i ≤ xs.length → Pv i σ H → SqL K H a xs)
    (hs : ∀ i x σ H T, xs[i]? = some x → Pv i σ H → H T = none → g (.ref T) σ (upd H T (.tup [.int (i : Nat), x])) fun σ2 H2 => tb { D with nx := Pv (i + 1), ct := Pv (i + 1), bk := D.nx } σ2 H2) (hd : ∀ σ H, Pv xs.length σ H → D.nx σ H) : Loop (Ite K a) g tb D σ H := by
  refine loop_any xs.length Pv h0 (fun i σ H hi p => ?_) fun σ H p => ⟨⟨xs, hl _ _ _ (Nat.le_refl _) p, Nat.le_refl _⟩, hd _ _ p⟩
  have q := hl i σ H (Nat.le_of_lt hi) p
  refine ⟨⟨xs, xs[i], q, List.getElem?_eq_getElem hi⟩, ?_⟩
  rintro x H' ⟨T, y, rfl, hT, rfl, hy⟩
  exact hs i y σ H T (hy _ q) p hT
/-! ### comprehensions -/
variable {wi : TI} {tt : TT} {te : TE} {ws : List Nat}
def Lc (J : It) (g : TG) (tt : TT) (te : TE) (ws : List Nat) (σ : Sig) (D : Addr) (H1 : Hp) (Qd : Hp → Prop) : Prop := ∃ W : Nat → Nat → Hp → Prop, (∃ m, W 0 m (upd H1 D (.lst []))) ∧ ∀ i m H, W i m H →
  (J.stop i H ∧ Qd H) ∨ (J.go i H ∧ ∃ Nx : Hp → Prop, (∀ H', Nx H' → ∃ m', m' < m ∧ W (i + 1) m' H') ∧ ∀ x H', J.yld i H x H' → g x (wipe σ ws) H' fun σ2 H2 => wipe σ2 ws = wipe σ ws ∧ tt σ2 H2 fun b H3 =>
    if b = true then te σ2 H3 fun y H4 => ∃ acc, H4 D = some (.lst acc) ∧ acc.length < sizeLine ∧ Nx (upd H4 D (.lst (acc ++ [y]))) else Nx H3)
theorem R_lc (h : wi σ H fun J H1 => ∀ D, H1 D = none → Lc J g tt te ws σ D H1 fun H2 => Q (.ref D) H2) : tLc wi g tt te ws σ H Q := h
variable {Qd : Addr → Hp → Prop}
theorem R_itE {a : Addr} {xs : List V} (h : SqL K H a xs) (k : Loop (Ite K a) g tb D σ H) : ∃ b ys, [V.ref a] = [.ref b] ∧ SqL K H b ys ∧ Loop (Ite K b) g tb D σ H := ⟨a, xs, rfl, h, k⟩
theorem R_itZ {a b : Addr} {xs ys : List V} (h : SqL K H a xs) (h' : SqL K H b ys) (k : Loop (Itz K a b) g tb D σ H) : ∃ a' b' xs ys, [V.ref a, V.ref b] = [.ref a', .ref b'] ∧ SqL K H a' xs ∧ SqL K H b' ys ∧ Loop (Itz K a' b') g tb D σ H := ⟨a, b, xs, ys, rfl, h, h', k⟩
theorem R_itEc {a : Addr} {xs : List V} (h : SqL K H a xs) (k : ∀ D, H D = none → Lc (Ite K a) g tt te ws σ D H (Qd D)) : ∃ b ys, [V.ref a] = [.ref b] ∧ SqL K H b ys ∧ ∀ D, H D = none → Lc (Ite K b) g tt te ws σ D H (Qd D) := ⟨a, xs, rfl, h, k⟩
theorem R_itZc {a b : Addr} {xs ys : List V} (h : SqL K H a xs) (h' : SqL K H b ys) (k : ∀ D, H D = none → Lc (Itz K a b) g tt te ws σ D H (Qd D)) : ∃ a' b' xs ys, [V.ref a, V.ref b] = [.ref a', .ref b'] ∧ SqL K H a' xs ∧ SqL K H b' ys ∧ ∀ D, H D = none → Lc (Itz K a' b') g tt te ws σ D H (Qd D) := ⟨a, b, xs, ys, rfl, h, h', k⟩
theorem R_itLc {a : Addr} {xs : List V} (h : SqL K H a xs) (k : ∀ D, H D = none → Lc (Itl K a) g tt te ws σ D H (Qd D)) : ∃ b, V.ref a = .ref b ∧ (∃ ys, SqL K H b ys) ∧ ∀ D, H D = none → Lc (Itl K b) g tt te ws σ D H (Qd D) := ⟨a, rfl, ⟨xs, h⟩, k⟩
theorem R_rng1c {j : Int} (k : ∀ D, H D = none → Lc (Itr 0 j.toNat) g tt te ws σ D H (Qd D)) (h0 : -(2 ^ 62) ≤ j) (h1 : j < 2 ^ 62) : ∃ i : Int, ([V.int j] : List V) = [.int i] ∧ -(2 ^ 62) ≤ i ∧ i < 2 ^ 62 ∧ ∀ D, H D = none → Lc (Itr 0 i.toNat) g tt te ws σ D H (Qd D) := ⟨j, rfl, h0, h1, k⟩
theorem R_enum {ta : TA} {R : It → Hp → Prop} (h : ta σ H fun vs H1 => ∃ a xs, vs = [.ref a] ∧ SqL K H1 a xs ∧ R (Ite K a) H1) : iEnum K ta σ H R := h
theorem R_zip {ta : TA} {R : It → Hp → Prop} (h : ta σ H fun vs H1 => ∃ a b xs ys, vs = [.ref a, .ref b] ∧ SqL K H1 a xs ∧ SqL K H1 b ys ∧ R (Itz K a b) H1) : iZip K ta σ H R := h
theorem same_set {H0 H1 : Hp} {l : Addr} {o : HO} (h : Same H0 H1) (n : H0 l = none) : Same H0 (upd H1 l o) := fun b u e => by
  rw [upd_ne (ne_of_none e n)]
  exact h _ _ e
/-! ### targets, dicts, while, tests -/
theorem R_tup2 {i j : Nat} {T : Addr} {x y : V} {Q : Sig → Hp → Prop} (h : SqT K H T [x, y]) (q : Q ((σ.set i (some x)).set j (some y)) H) : gTup K 2 (gCons (gName i) (gCons (gName j) gNil)) (.ref T) σ H Q := ⟨T, [x, y], rfl, h, rfl, x, [y], rfl, y, [], rfl, rfl, q⟩
theorem R_yes {Q : Bool → Hp → Prop} (h : Q true H) : tYes σ H Q := h
theorem R_dnew (h : ∀ p, H p = none → Q (.ref p) (upd H p (.dK []))) : tDNewK σ H Q := h
theorem R_dget {td ty : TE} (h : td σ H fun x H1 => ty σ H1 fun y H2 => ∃ a v, x = .ref a ∧ DGet H2 a y (some v) ∧ Q v H2) : tDGet td ty σ H Q := h
theorem R_din {td ty : TE} (h : ty σ H fun y H1 => td σ H1 fun x H2 => ∃ a o, x = .ref a ∧ DGet H2 a y o ∧ Q (.bl o.isSome) H2) : tDIn ty td σ H Q := h
theorem R_dnotin {td ty : TE} (h : ty σ H fun y H1 => td σ H1 fun x H2 => ∃ a o, x = .ref a ∧ DGet H2 a y o ∧ Q (.bl (!o.isSome)) H2) : tDNotIn ty td σ H Q := h
theorem R_dput {td ty tv : TE} {D : Ends} (h : tv σ H fun v H1 => td σ H1 fun x H2 => ty σ H2 fun y H3 => ∃ a H4, x = .ref a ∧ DPut H3 a y v H4 ∧ D.nx σ H4) : sDPut td ty tv D σ H := h
end
end L3

namespace L3
open PySem PySem.Spec PyProof.Rows L2
section
variable {X : Cx}
/-! ### range objects, list(range(n)) -/
def rRng1 : List V → Hp → VK → Prop := fun vs H Q => ∃ j : Int, vs = [V.int j] ∧ ∀ p, H p = none → Q (.ref p) (upd H p (.rng 0 j))
def upTo (n : Nat) : List Int := (List.range n).map fun (i : Nat) => (i : Int)
def rListR : List V → Hp → VK → Prop := fun vs H Q => ∃ (p : Addr) (j : Int), vs = [V.ref p] ∧ H p = some (.rng 0 j) ∧ 0 ≤ j ∧ j ≤ 60000 ∧ Laid Q (.lst ((upTo j.toNat).map V.int)) H
def rLenD : List V → Hp → VK → Prop := fun vs H Q => ∃ (a : Addr) (kvs : List (Key × V)), vs = [V.ref a] ∧ H a = some (.dK kvs) ∧ Q (.int kvs.length) H
end
section
variable {σ : Sig} {H : Hp} {Q : VK} {K : PySem.W.Frag}
theorem R_lenD {p : Addr} {kvs : List (Key × V)} (h : H p = some (.dK kvs)) (q : Q (.int (kvs.length : Int)) H) : rLenD [.ref p] H Q := ⟨p, kvs, rfl, h, q⟩
theorem R_rngO {j : Int} (q : Laid Q (.rng 0 j) H) : rRng1 [.int j] H Q := ⟨j, rfl, q⟩
theorem R_listR {p : Addr} {j : Int} (h : H p = some (.rng 0 j)) (q : Laid Q (.lst ((upTo j.toNat).map V.int)) H) (h0 : 0 ≤ j) (h1 : j ≤ 60000) : rListR [.ref p] H Q := ⟨p, j, rfl, h, h0, h1, q⟩
end
end L3
namespace L3
open PySem PySem.Spec PyProof.Rows L2
section
variable {X : Cx}
/-! ### a pair among pairs -/
end
end L3

set_option maxRecDepth 100000
namespace L3
open PySem PySem.Spec PyProof.Rows L2
/-! ### zip, walked while its last pair is still held -/
section
variable {prog : Program} {w : World} {A : Around} {E : Value → Shared → Prop} {s : Shared}
end
end L3
namespace L3
open PySem PySem.Spec PyProof.Rows L2
/-! ### a zip has no attribute keys -/
section
variable {prog : Program} {w : World} {A : Around} {E : Value → Shared → Prop}
end
end L3

set_option maxRecDepth 100000
namespace L3
open PySem PySem.Spec PyProof.Rows L2
section
variable {prog : Program} {w : World} {A : Around} {E : Value → Shared → Prop}
/-! ### dict(zip(xs, ys)) -/
end
section
variable {X : Cx}
def tDZ (K : PySem.W.Frag) (ta : TA) : TE := fun σ H Q => ta σ H fun vs H1 => ∃ (a b : Addr) (kvs : List (Key × V)), vs = [V.ref a, V.ref b] ∧ SqL K H1 a (kvs.map fun e => kV e.1) ∧ SqL K H1 b (kvs.map fun e => e.2) ∧ Laid Q (.dK (mergeK [] kvs)) H1
end
section
variable {σ : Sig} {H : Hp} {Q : VK} {K : PySem.W.Frag}
theorem R_dz {ta : TA} (h : ta σ H fun vs H1 => ∃ (a b : Addr) (kvs : List (Key × V)), vs = [V.ref a, V.ref b] ∧ SqL K H1 a (kvs.map fun e => kV e.1) ∧ SqL K H1 b (kvs.map fun e => e.2) ∧ Laid Q (.dK (mergeK [] kvs)) H1) : tDZ K ta σ H Q := h
end
end L3

set_option maxRecDepth 100000
namespace L3
open PySem PySem.Spec PyProof.Rows L2
section
variable {X : Cx}
/-! ### xs.remove(n) of a list of whole numbers -/
end
section
variable {σ : Sig} {H : Hp} {Q : VK} {K : PySem.W.Frag} {g : TG} {tb : TS} {D : Ends}
theorem R_iRng3 {ta : TA} {R : It → Hp → Prop} (h : ta σ H fun vs H1 => ∃ (i j c : Int) (n : Nat), vs = [.int i, .int j, .int c] ∧ RgC i j c n ∧ R (Itc i c n) H1) : iRng3 ta σ H R := h
end
end L3

set_option maxRecDepth 100000
namespace L3
open PySem PySem.Spec PyProof.Rows L2
section
variable {prog : Program} {w : World} {A : Around} {R : Result → Shared → Prop} {J : Addr} {fp wr : List Addr} {n : Nat} {P : Nat → Value → Prop} {St : Nat → Heap → Prop} {kw : List (Str × Value)}
/-! ### max(xs, default = d) -/
end
section
variable {prog : Program} {w : World} {A : Around} {E : Value → Shared → Prop} {s : Shared}
end
end L3
namespace L3
open PySem PySem.Spec PyProof.Rows L2
section
variable {prog : Program} {w : World} {A : Around} {E : Value → Shared → Prop} {s : Shared} {l : Addr} {its : List Value} {ns : List Int} {Q : Value → Shared → Prop}
end
section
variable {X : Cx}
def tMaxD (K : PySem.W.Frag) (t tk : TA) : TE := fun σ H Q => t σ H fun vs H1 => tk σ H1 fun ds H2 => ∃ (a : Addr) (ns : List Int) (d : Int), vs = [V.ref a] ∧ ds = [V.int d] ∧ SqL K H2 a (ns.map V.int) ∧ (ns = [] → Q (.int d) H2) ∧ ∀ m, m ∈ ns → (∀ y, y ∈ ns → y ≤ m) → Q (.int m) H2
end
section
variable {σ : Sig} {H : Hp} {Q : VK} {K : PySem.W.Frag}
theorem R_maxD {t tk : TA} (h : t σ H fun vs H1 => tk σ H1 fun ds H2 => ∃ (a : Addr) (ns : List Int) (d : Int), vs = [V.ref a] ∧ ds = [V.int d] ∧ SqL K H2 a (ns.map V.int) ∧ (ns = [] → Q (.int d) H2) ∧ ∀ m, m ∈ ns → (∀ y, y ∈ ns → y ≤ m) → Q (.int m) H2) : tMaxD K t tk σ H Q := h
end
end L3

set_option maxRecDepth 100000
namespace L3
open PySem PySem.Spec PyProof.Rows L2
/-! ### None as a key -/
section
variable {prog : Program} {w : World} {A : Around} {E : Value → Shared → Prop} {s : Shared}
end
section
variable {X : Cx} {pins : List (Addr × Obj)} {σ : Sig} {H : Hp} {s : Shared} {d : Addr} {A : Around} {E : Value → Shared → Prop}
end
section
variable {X : Cx}
/-- k in d, k a whole number or None -/
def tDInO (ty td : TE) : TE := fun σ H Q => ty σ H fun y H1 => td σ H1 fun x H2 => ∃ (a : Addr) (kvs : List (Key × V)), x = .ref a ∧ H2 a = some (.dK kvs) ∧ ((y = .non ∧ Q (.bl false) H2) ∨ ∃ n : Int, y = .int n ∧ Q (.bl (valV kvs (Sum.inl n)).isSome) H2)
end
section
variable {σ : Sig} {H : Hp} {Q : VK}
theorem R_dinO {ty td : TE} (h : ty σ H fun y H1 => td σ H1 fun x H2 => ∃ (a : Addr) (kvs : List (Key × V)), x = .ref a ∧ H2 a = some (.dK kvs) ∧ ((y = .non ∧ Q (.bl false) H2) ∨ ∃ n : Int, y = .int n ∧ Q (.bl (valV kvs (Sum.inl n)).isSome) H2)) : tDInO ty td σ H Q := h
end
end L3

set_option maxRecDepth 100000
namespace L3
open PySem PySem.Spec PyProof.Rows L2
section
variable {prog : Program} {w : World} {A : Around} {E : Value → Shared → Prop} {s : Shared}
/-! ### (a, b, c).index(n) -/
theorem ti3 {T : Addr} {o : Obj} {a0 a1 a2 n : Int} {t0 t1 t2 t : Tok} {c : Nat} {Q : Value → Shared → Prop} (at_ : s.heap.get? T = some o) (hc : o.cls = .type "tuple") (hd : o.data = .seq #[.int a0 t0, .int a1 t1, .int a2 t2] c) (j : Nat)
    (hj : (j = 0 ∧ a0 = n) ∨ (j = 1 ∧ a0 ≠ n ∧ a1 = n) ∨ (j = 2 ∧ a0 ≠ n ∧ a1 ≠ n ∧ a2 = n)) (k : Q (.int (j : Nat) s.toks) { s with toks := s.toks + 1 }) :
    wpAny (model prog w) A (Builtin.«tuple.index» ⟨[.ref T, .int n t], []⟩) (fun fin s' => ∃ v, fin = .done (.ret v) ∧ Q v s') E s := by
  obtain ⟨cl, dd, da, sl⟩ := o
  simp only at hc hd
  subst hc hd
  have ty : s.TypeIs (.ref T) "tuple" := ⟨_, at_, rfl⟩
  unfold Builtin.«tuple.index»
  simp only [Std.Legacy.Range.forIn_eq_forIn_range']
  repeat (any_goals (first | assumption | ((fail_if_success with_reducible show wpAny _ _ (forIn _ _ _) _ _ _); wp_step)))
  have es : List.range' 0 [:min (#[Value.int a0 t0, Value.int a1 t1, Value.int a2 t2] : Array Value).size (#[Value.int a0 t0, Value.int a1 t1, Value.int a2 t2] : Array Value).size].size = [0, 1, 2] := by simp [Std.Legacy.Range.size, List.range']
  first | rw [es] | (simp only [es]) | skip
  simp only [List.forIn_cons, List.forIn_nil]
  refine wpAny_bind ?_
  show wpAny _ _ (eqBool (.int a0 t0) (.int n t) >>= _) _ _ _
  refine wpAny_bind (wpAny_eqBool_int ?_)
  by_cases c0 : a0 = n
  · have e0 : (a0 == n) = true := by rw [c0]; simp
    have ej : j = 0 := by omega
    subst ej
    rw [e0, if_pos rfl]
    refine wpAny_bind (show wpAny _ _ (mkInt _ >>= fun v => pure (Fin.done (Flow.ret v))) _ _ _ from wpAny_bind (wpAny_mkInt (wpAny_pure ?_)))
    refine wpAny_pure (wpAny_pure (wpAny_pure ⟨_, rfl, k⟩))
  have e0 : (a0 == n) = false := by simp [c0]
  rw [e0, if_neg (by decide)]
  refine wpAny_pure ?_
  show wpAny _ _ ((eqBool (.int a1 t1) (.int n t) >>= _) >>= _) _ _ _
  refine wpAny_bind (wpAny_bind (wpAny_eqBool_int ?_))
  by_cases c1 : a1 = n
  · have e1 : (a1 == n) = true := by rw [c1]; simp
    have ej : j = 1 := by omega
    subst ej
    rw [e1, if_pos rfl]
    refine wpAny_bind (show wpAny _ _ (mkInt _ >>= fun v => pure (Fin.done (Flow.ret v))) _ _ _ from wpAny_bind (wpAny_mkInt (wpAny_pure ?_)))
    refine wpAny_pure (wpAny_pure (wpAny_pure ⟨_, rfl, k⟩))
  have e1 : (a1 == n) = false := by simp [c1]
  rw [e1, if_neg (by decide)]
  refine wpAny_pure ?_
  show wpAny _ _ ((eqBool (.int a2 t2) (.int n t) >>= _) >>= _) _ _ _
  refine wpAny_bind (wpAny_bind (wpAny_eqBool_int ?_))
  have ej : j = 2 := by omega
  have c2 : a2 = n := by omega
  have e2 : (a2 == n) = true := by rw [c2]; simp
  subst ej
  rw [e2, if_pos rfl]
  refine wpAny_bind (show wpAny _ _ (mkInt _ >>= fun v => pure (Fin.done (Flow.ret v))) _ _ _ from wpAny_bind (wpAny_mkInt (wpAny_pure ?_)))
  refine wpAny_pure (wpAny_pure (wpAny_pure ⟨_, rfl, k⟩))
end
end L3
namespace L3
open PySem PySem.Spec PyProof.Rows L2
section
variable {X : Cx}
def rTupIx (K : PySem.W.Frag) : V → List V → Hp → VK → Prop := fun x vs H Q => ∃ (a : Addr) (a0 a1 a2 n : Int) (j : Nat), x = .ref a ∧ vs = [.int n] ∧ SqT K H a [.int a0, .int a1, .int a2] ∧ ((j = 0 ∧ a0 = n) ∨ (j = 1 ∧ a0 ≠ n ∧ a1 = n) ∨ (j = 2 ∧ a0 ≠ n ∧ a1 ≠ n ∧ a2 = n)) ∧ Q (.int (j : Nat)) H
theorem mt_tupIx : MtR X "tuple.index" (rTupIx X.K) := by
  intro pins s σ H x vs v us Q I rx rv ⟨a, a0, a1, a2, n, j, ex, ev, hq, hj, q⟩
  subst ex ev
  cases rx
  obtain ⟨u, rfl, ru⟩ := vals1 rv
  obtain ⟨t, rfl⟩ := ru
  obtain ⟨its, rr, ⟨o, ho, hc, c, hd⟩, hz⟩ := I.tuple hq
  cases rr with
  | cons h0 r0 =>
    cases r0 with
    | cons h1 r1 =>
      cases r1 with
      | cons h2 r2 =>
        cases r2
        obtain ⟨t0, rfl⟩ := h0
        obtain ⟨t1, rfl⟩ := h1
        obtain ⟨t2, rfl⟩ := h2
        have ty : s.TypeIs (.ref a) "tuple" := ⟨o, ho, hc⟩
        exact wpAny_call_entry PySem.F.slot_tuple_index ty PySem.F.entry_tuple_index (ti3 ho hc hd j hj ⟨.int (j : Nat), H, I.tok _, ⟨_, rfl⟩, q⟩) (PySem.F.args_tuple_index_2 _ _)
/-- a tuple of the program's text -/
def TupK (K : PySem.W.Frag) (p : Addr) : Prop := ∃ o, K.lookup p = some o ∧ o.cls = .type "tuple" ∧ o.dict = none
theorem ty_tuple {K : PySem.W.Frag} {H : Hp} {p : Addr} (h : TupK K p) : tyV K "tuple" (.ref p) H := .inr (.inl ⟨rfl, h⟩)
theorem R_eqT {K : PySem.W.Frag} {H : Hp} {Q : VK} {p q : Addr} {ns ms : List Int} (h : SqT K H p (ns.map V.int)) (h' : SqT K H q (ms.map V.int)) (k : Q (.bl (decide (ns = ms))) H) : rEqD K (.ref p) (.ref q) H Q := by
  refine ⟨_, _, .tup h (dpAll_ints ns), .tup h' (dpAll_ints ms), shaped_tup _, shaped_tup _, ?_⟩
  show Q (.bl (PyData.eqvAll (ns.map PyData.int) (ms.map PyData.int))) H
  rw [eqvAll_ints]
  exact k
end
end L3

set_option linter.all false
set_option maxRecDepth 100000
set_option linter.all false
set_option maxRecDepth 100000
local macro_rules | `(tactic| walk_at "sq") => `(tactic| first
  | assumption
  | exact L2.SqL.of (by assumption)
  | exact L2.SqT.of (by assumption)
  | (with_reducible exact L2.SqL.of L2.upd_same)
  | (with_reducible exact L2.SqT.of L2.upd_same)
  | ((with_reducible refine L3.sq_up ?_ (by assumption)); walk_at "sq")
  | ((with_reducible refine L3.sqT_same (L3.same_up (by assumption)) ?_); walk_at "sq")
  | ((with_reducible refine L2.Same.seq (by assumption) ?_); walk_at "sq")
  | ((with_reducible refine L3.sqT_same (by assumption) ?_); walk_at "sq"))
local macro_rules | `(tactic| walk_at "one") => `(tactic| first
  | ((with_reducible refine' L3.R_var ?hv ?_); (case hv => exact rfl))
  | with_reducible refine L3.R_C ?_
  | with_reducible refine L3.R_op ?_
  | with_reducible refine L3.R_un ?_
  | with_reducible refine L3.R_rU ?_
  | with_reducible refine L3.R_rI0 ?_
  | ((with_reducible refine' L3.R_rIm ?_ ?hc); (case hc => first | omega | exact L3.cmul (by omega) | exact L3.cmul2 (by omega) | exact ⟨by omega, by omega⟩))
  | with_reducible refine L3.R_rIm ?_ ?_
  | with_reducible refine L3.R_rEq ?_
  | with_reducible refine L3.R_rNe ?_
  | with_reducible refine L3.R_isN ?_
  | with_reducible refine L3.R_notN ?_
  | with_reducible refine L3.R_test ?_
  | with_reducible refine L3.R_B ?_
  | with_reducible refine L3.R_isbl ?_
  | with_reducible refine L2.iteT ?_
  | with_reducible refine L2.iteF ?_
  | ((with_reducible refine' L3.R_few ?hn ?_); (case hn => exact Nat.le_of_ble_eq_true rfl))
  | ((with_reducible refine L3.R_laid ?_); intro _ _ _ _ _)
  | with_reducible refine L3.R_or ?_
  | with_reducible refine L3.R_and ?_
  | with_reducible refine L3.R_not ?_
  | with_reducible refine L3.R_andV ?_
  | with_reducible refine L3.R_orV ?_
  | with_reducible refine L3.R_notV ?_
  | with_reducible refine L3.R_ifE ?_
  | with_reducible refine L3.R_chain ?_
  | with_reducible refine L3.R_cb ?_
  | with_reducible refine L3.R_cons ?_
  | with_reducible refine L3.R_nil ?_
  | with_reducible refine L3.R_tup ?_
  | with_reducible refine L3.R_lst ?_
  | with_reducible refine L3.R_own ?_
  | ((with_reducible refine' L3.R_lenI ?hq ?_); (case hq => walk_at "sq"))
  | ((with_reducible refine' L3.R_ixI ?hq ?_ ?h0 ?h1); (case hq => walk_at "sq"); (case h0 => omega); (case h1 => omega); (try dsimp only [Int.reduceToNat]))
  | ((with_reducible refine' L3.R_toTup ?hq ?_); (case hq => walk_at "sq"))
  | ((with_reducible refine' L3.R_toLst ?hq ?_); (case hq => walk_at "sq"))
  | with_reducible refine L3.R_min2 ?_
  | with_reducible refine L3.R_max2 ?_
  | with_reducible refine L3.R_sl ?_
  | with_reducible refine L3.R_noPart ?_
  | with_reducible refine L3.R_part ?_
  | with_reducible refine L3.R_isint ?_
  | ((with_reducible refine' L3.R_slL ?hq ?_); (case hq => walk_at "sq"))
  | with_reducible refine L3.R_bm ?_
  | with_reducible refine L3.R_bm0 ?_
  | with_reducible refine L3.R_seq ?_
  | with_reducible refine L3.R_if ?_
  | with_reducible refine L3.R_ret ?_
  | with_reducible refine L3.R_retN ?_
  | with_reducible refine L3.R_next ?_
  | with_reducible refine L3.R_cont ?_
  | with_reducible refine L3.R_break ?_
  | with_reducible refine L3.R_drop ?_
  | with_reducible refine L3.R_asg ?_
  | ((with_reducible refine L3.R_name ?_); (try dsimp only [List.set]))
  | with_reducible refine L3.R_sub ?_
  | with_reducible refine L3.R_for ?_
  | with_reducible refine L3.R_iRng1 ?_
  | with_reducible refine L3.R_iRng2 ?_
  | with_reducible refine L3.R_iTup ?_
  | with_reducible refine L3.R_iLst ?_
  | ((with_reducible refine' L3.R_rng1 ?_ ?h0 ?h1); (case h0 => omega); (case h1 => omega))
  | with_reducible refine L3.R_rng1 ?_ ?_ ?_
  | ((with_reducible refine' L3.R_rng2 ?_ ?h0); (case h0 => omega))
  | with_reducible refine L3.R_rng2 ?_ ?_
  | ((with_reducible refine' L3.R_itT ?hq ?_); (case hq => walk_at "sq"))
  | ((with_reducible refine' L3.R_itL ?hq ?_); (case hq => walk_at "sq"))
  | with_reducible refine L3.R_lc ?_
  | with_reducible refine L3.R_enum ?_
  | with_reducible refine L3.R_zip ?_
  | ((with_reducible refine' L3.R_itE ?hq ?_); (case hq => walk_at "sq"))
  | ((with_reducible refine' L3.R_itEc ?hq ?_); (case hq => walk_at "sq"))
  | ((with_reducible refine' L3.R_itLc ?hq ?_); (case hq => walk_at "sq"))
  | ((with_reducible refine' L3.R_rng1c ?_ ?h0 ?h1); (case h0 => omega); (case h1 => omega))
  | ((with_reducible refine' L3.R_itZ ?hq ?hr ?_); (case hq => walk_at "sq"); (case hr => walk_at "sq"))
  | ((with_reducible refine' L3.R_itZc ?hq ?hr ?_); (case hq => walk_at "sq"); (case hr => walk_at "sq"))
  | ((with_reducible refine' L3.R_tup2 ?hq ?_); (case hq => walk_at "sq"); (try dsimp only [List.set]))
  | with_reducible refine L3.R_yes ?_
  | ((with_reducible refine L3.R_dnew ?_); intro _ _)
  | with_reducible refine L3.R_dget ?_
  | with_reducible refine L3.R_din ?_
  | with_reducible refine L3.R_dnotin ?_
  | with_reducible refine L3.R_dput ?_
  | with_reducible refine L3.R_rngO ?_
  | with_reducible refine L3.R_dz ?_
  | with_reducible refine L3.R_iRng3 ?_
  | with_reducible refine L3.R_maxD ?_
  | with_reducible refine L3.R_dinO ?_
  | ((with_reducible refine' L3.R_lenD ?hq ?_); (case hq => assumption))
  | ((with_reducible refine' L3.R_listR ?hq ?_ ?h0 ?h1); (case hq => assumption); (case h0 => omega); (case h1 => omega)))
local macro_rules | `(tactic| walk_at "go") => `(tactic| repeat walk_at "one")
local macro_rules | `(tactic| walk_at "if") => `(tactic| first
  | with_reducible refine L3.ite_dec (fun c => ?_) (fun c => ?_)
  | with_reducible refine L3.ite_ndec (fun c => ?_) (fun c => ?_))
namespace Il
open PySem PySem.Spec PyProof.Rows L2 L3
/-! ### promises -/
/-- bytes that are handed in -/
structure BAt (K : PySem.W.Frag) (H : Hp) (a : Addr) (b : List Int) : Prop where
  sq : SqL K H a (b.map V.int)
  byt : Byt b
  len : b.length ≤ 2000
theorem BAt.same {K : PySem.W.Frag} {H H' : Hp} {a : Addr} {b : List Int} (h : BAt K H a b) (e : Same H H') : BAt K H' a b := ⟨e.seq h.sq, h.byt, h.len⟩
/-- an answer: a list of whole numbers -/
def Ans (Q : VK) (r : List Int) : Prop := ∀ (H' : Hp) (l : Addr), H' l = some (.lst (r.map V.int)) → Q (.ref l) H'

def sp_is_too_long (K : PySem.W.Frag) : Sp := fun vs H Q _ => ∃ (a : Addr) (ns : List Int), vs = [.ref a] ∧ (SqL K H a (ns.map V.int) ∧ Q (.bl (decide (1024 < ns.length))) H)
theorem ln_is_too_long {K : PySem.W.Frag} {vs : List V} {H : Hp} {Q : VK} {E : XK} (h : sp_is_too_long K vs H Q E) : vs.length = 1 := by obtain ⟨_, _, rfl, _⟩ := h; rfl
/-- a new list of whole numbers -/
def NewL (Q : VK) (H : Hp) (ns : List Int) : Prop := ∀ (H' : Hp) (l : Addr), Same H H' → H l = none → H' l = some (.lst (ns.map V.int)) → Q (.ref l) H'
def sp_tell_list (K : PySem.W.Frag) : Sp := fun vs H Q _ => ∃ (a : Addr) (ns : List Int), vs = [.ref a] ∧ (H a = some (.lst (ns.map V.int)) ∧ ns.length ≤ 2000 ∧ NewL Q H ((ns.length : Int) :: ns))
theorem ln_tell_list {K : PySem.W.Frag} {vs : List V} {H : Hp} {Q : VK} {E : XK} (h : sp_tell_list K vs H Q E) : vs.length = 1 := by obtain ⟨_, _, rfl, _⟩ := h; rfl
section
variable {K : PySem.W.Frag} {vs : List V} {H : Hp} {Q : VK} {E : XK}
end
/-! ### transformers (made by tools/gen.py) -/
def t_is_too_long (K : PySem.W.Frag) : TS :=
  (tRet (tOp (rI0 fun i j => .bl (decide (j < i))) (tCB (rLen K) (tCons (tVar 0) tNil)) (tC (.int 1024))))
def t_tell_list (K : PySem.W.Frag) : TS :=
  (tRet (tOp rCat (tLst (tCons (tCB (rLen K) (tCons (tVar 0) tNil)) tNil)) (tVar 0)))

/-! ### readings -/
section
variable {K : PySem.W.Frag} {vs : List V} {H : Hp} {Q : VK} {E : XK}
theorem rd_is_too_long {K : PySem.W.Frag} {vs : List V} {H : Hp} {Q : VK} {E : XK} (h : sp_is_too_long K vs H Q E) : t_is_too_long K { nx := fun _ H' => Q .non H', rt := Q } (start ["numbers"] vs) H := by
  obtain ⟨a, ns, rfl, ⟨hq, q⟩⟩ := h
  show t_is_too_long K _ [some (.ref a)] H
  unfold t_is_too_long
  walk_at "go"
  have e : decide ((1024 : Int) < (ns.length : Int)) = decide (1024 < ns.length) := decide_eq_decide.mpr (by omega)
  rw [e]
  exact q
theorem ans {r : List Int} {l : Addr} {xs : List V} (h : Ans Q r) (hl : H l = some (.lst xs)) (e : xs = r.map V.int) : Q (.ref l) H := h _ _ (by rw [hl, e])
theorem upto {n : Nat} (h : n ≤ 60000) : n ≤ sizeLine := Nat.le_trans h (by rw [sizeLine_eq]; decide)
theorem rd_tell_list {K : PySem.W.Frag} {vs : List V} {H : Hp} {Q : VK} {E : XK} (h : sp_tell_list K vs H Q E) : t_tell_list K { nx := fun _ H' => Q .non H', rt := Q } (start ["numbers"] vs) H := by
  obtain ⟨a, ns, rfl, ⟨hq, hz, q⟩⟩ := h
  show t_tell_list K _ [some (.ref a)] H
  unfold t_tell_list
  walk_at "go"
  rename_i l1 H1 n1 s1 e1
  refine R_cat e1 (s1 _ _ hq) (upto (by simp only [List.length_map, List.length_cons, List.length_nil]; omega)) ?_
  walk_at "go"
  rename_i l2 H2 n2 s2 e2
  refine q _ _ (s1.trans s2) ?_ e2
  cases c : H l2 with
  | none => rfl
  | some o => rw [s1 _ _ c] at n2; cases n2
/-! place -/
section
variable {a_STEPS a0 a1 a2 a3 : Addr} (h : ∀ H, SqT K H a_STEPS [.ref a0, .ref a1, .ref a2, .ref a3]) (h0 : ∀ H, SqT K H a0 [.int 0, .int (-1)]) (h1 : ∀ H, SqT K H a1 [.int 1, .int 0]) (h2 : ∀ H, SqT K H a2 [.int 0, .int 1]) (h3 : ∀ H, SqT K H a3 [.int (-1), .int 0])
include h h0 h1 h2 h3
end
end
end Il

/-! A panel traced: strands by their least pieces, numbered. -/
namespace Plait
section
variable (D : Panel)
end
end Plait

namespace Il
open Plait PlaitP
theorem f_read {t : List Int} (h : Byt t) : PyWqbacf.read t = if 1024 < t.length then [-2] else match readDrawing (bOf t) with
    | .error p => [-6, (p : Int)]
    | .ok D => told (gives D.bytes) := by
  have e : PlaitNeutral.callOf [[8], t] = some (.read (bOf t)) := by
    show (PlaitNeutral.text? t).map PlaitP.Call.read = _
    rw [text_of h]
    try rfl
  unfold PyWqbacf.read
  rw [f_told e]
  show told (if LOOKED < (bOf t).length then MUCH else _) = _
  rw [bOf_len]
  by_cases c : 1024 < t.length
  · rw [if_pos c, if_pos (show LOOKED < t.length from c)]
    rfl
  · rw [if_neg c, if_neg (show ¬ LOOKED < t.length from c)]
    cases readDrawing (bOf t) with
    | error p => rfl
    | ok D => rfl
end Il

namespace Plait
section
variable (D : Panel)
end
end Plait

namespace Il
open Plait PlaitP
end Il

set_option linter.all false
set_option maxRecDepth 100000
namespace Il
open PySem PySem.Spec PyProof.Rows L2 L3
/-! ### ends: promises -/
/-! ### readings -/
end Il

set_option linter.all false
set_option maxRecDepth 100000
namespace Il
open PySem PySem.Spec PyProof.Rows L2 L3
abbrev ofN (l : List Nat) : List Int := l.map fun (n : Nat) => (n : Int)
/-! ### tracing: promises -/
/-! ### readings -/
/-! ### the calls -/
end Il

namespace Plait
end Plait
namespace Il
open Plait
end Il

set_option linter.all false
set_option maxRecDepth 100000
namespace Il
open PySem PySem.Spec PyProof.Rows L2 L3
/-! ### the calls -/
end Il

namespace Il
open Plait
/-! ### numbers as labels first come -/
def dd (l : List Nat) : List Nat := l.foldl (fun acc x => if x ∈ acc then acc else acc ++ [x]) []
/-! ### heads: each hangs with a lesser one that is a head -/
end Il

set_option linter.all false
set_option maxRecDepth 100000
namespace Il
open PySem PySem.Spec PyProof.Rows L2 L3
/-! numbers as labels first come -/
/-! strands by their heads -/
/-! ### the calls -/
end Il

set_option linter.all false
set_option maxRecDepth 100000
namespace Il
open PySem PySem.Spec PyProof.Rows L2 L3
end Il

set_option linter.all false
set_option maxRecDepth 100000
namespace Il
open PySem PySem.Spec PyProof.Rows L2 L3
end Il

set_option linter.all false
set_option maxRecDepth 100000
namespace Il
open PySem PySem.Spec PyProof.Rows L2 L3
/-- bytes as whole numbers -/
abbrev bi (x : List UInt8) : List Int := x.map fun (c : UInt8) => (c.toNat : Int)
end Il

namespace Il
open Plait
/-! ### parts: crossings by what they hang with -/
/-! ### as the specification tells them -/
end Il

set_option linter.all false
set_option maxRecDepth 100000
namespace Il
open PySem PySem.Spec PyProof.Rows L2 L3
end Il

namespace Il
open Plait PlaitP
/-! ### bits -/
/-! ### a row of squares, from the left -/
section
variable {D : Panel}
end
end Il

namespace Il
open Plait PlaitP
/-! ### sides of squares, places -/
section
variable {D : Panel}
end
end Il

namespace Il
open Plait PlaitP
/-! ### changes, by whole numbers and by bits -/
section
variable (D : Panel) (w : List Bool)
end
end Il

namespace Il
open Plait PlaitP
/-! ### a place changed -/
/-! ### breaks read -/
end Il

set_option linter.all false
set_option maxRecDepth 100000
namespace Il
open PySem PySem.Spec PyProof.Rows L2 L3
end Il

set_option linter.all false
set_option maxRecDepth 100000
namespace Il
open PySem PySem.Spec PyProof.Rows L2 L3
end Il

set_option linter.all false
set_option maxRecDepth 100000
namespace Il
open PySem PySem.Spec PyProof.Rows L2 L3
/-! ### a dict of bits by places -/
end Il

set_option linter.all false
set_option maxRecDepth 100000
namespace Il
open PySem PySem.Spec PyProof.Rows L2 L3
/-! ### a dict of whole numbers by places -/
/-! ### what is wrong first -/
end Il

set_option linter.all false
set_option maxRecDepth 100000
namespace Il
open PySem PySem.Spec PyProof.Rows L2 L3
end Il

set_option linter.all false
set_option maxRecDepth 100000
namespace Il
open PySem PySem.Spec PyProof.Rows L2 L3
end Il

set_option linter.all false
set_option maxRecDepth 100000
namespace Il
open PySem PySem.Spec PyProof.Rows L2 L3
end Il

set_option linter.all false
set_option maxRecDepth 100000
namespace Il
open PySem PySem.Spec PyProof.Rows L2 L3
end Il

namespace Il
open Plait PlaitP
section
variable (D : Panel) (p : Nat)
end
end Il

set_option linter.all false
set_option maxRecDepth 100000
namespace Il
open PySem PySem.Spec PyProof.Rows L2 L3
end Il

set_option linter.all false
set_option maxRecDepth 100000
namespace Il
open PySem PySem.Spec PyProof.Rows L2 L3
/-! ### the first two alike -/
end Il

namespace Il
open Plait PlaitP
/-! ### a drawing, place by place: rows of N squares and one more -/
def okAt (N i : Nat) (c : UInt8) : Bool := if i % (2 * N + 2) = 2 * N + 1 then c == 10
  else if i / (2 * N + 2) % 2 = 0 then (if i % (2 * N + 2) % 2 = 0 then c == 111 else (stateAt true c).isSome)
  else (if i % (2 * N + 2) % 2 = 0 then (stateAt false c).isSome else c == 32)
def gOk (N i : Nat) (c : UInt8) : Bool := decide (i / (2 * N + 2) < 15) && okAt N i c
def upAt (N i : Nat) : Bool := decide (i % (2 * N + 2) ≠ 2 * N + 1 ∧ i / (2 * N + 2) % 2 = 0 ∧ i % (2 * N + 2) % 2 = 1)
def levAt (N i : Nat) : Bool := decide (i % (2 * N + 2) ≠ 2 * N + 1 ∧ i / (2 * N + 2) % 2 = 1 ∧ i % (2 * N + 2) % 2 = 0)
def faultFrom (N : Nat) : Nat → Bytes → Option Nat
  | p, [] => if 0 < p % (2 * N + 2) ∨ p / (2 * N + 2) % 2 = 0 then some p else none
  | p, c :: r => if gOk N p c = true then faultFrom N (p + 1) r else some p
def upsFrom (N : Nat) : Nat → Bytes → List Nat
  | _, [] => []
  | p, c :: r => if upAt N p = true then (stateAt true c).getD 0 :: upsFrom N (p + 1) r else upsFrom N (p + 1) r
def levFrom (N : Nat) : Nat → Bytes → List Nat
  | _, [] => []
  | p, c :: r => if levAt N p = true then (stateAt false c).getD 0 :: levFrom N (p + 1) r else levFrom N (p + 1) r
theorem pos_div {N L k : Nat} (h : k < 2 * N + 2) : ((2 * N + 2) * L + k) / (2 * N + 2) = L := by
  rw [Nat.add_comm, Nat.add_mul_div_left _ _ (by omega), Nat.div_eq_of_lt h, Nat.zero_add]
theorem pos_mod {N L k : Nat} (h : k < 2 * N + 2) : ((2 * N + 2) * L + k) % (2 * N + 2) = k := by
  rw [Nat.add_comm, Nat.add_mul_mod_self_left, Nat.mod_eq_of_lt h]
structure Kind (N p : Nat) (f : UInt8 → Bool) (u v : Bool) : Prop where
  ok : ∀ c, gOk N p c = f c
  up : upAt N p = u
  lev : levAt N p = v
theorem kind_o {N L k : Nat} (hk : k < 2 * N + 2) (h2 : k % 2 = 0) (hL : L % 2 = 0) (h15 : L < 15) : Kind N ((2 * N + 2) * L + k) (fun c => c == 111) false false := by
  refine ⟨fun c => ?_, ?_, ?_⟩
  · unfold gOk okAt
    rw [pos_div hk, pos_mod hk, if_neg (by omega), if_pos hL, if_pos h2, decide_eq_true h15, Bool.true_and]
  · unfold upAt
    rw [pos_div hk, pos_mod hk]
    exact decide_eq_false (by omega)
  · unfold levAt
    rw [pos_div hk, pos_mod hk]
    exact decide_eq_false (by omega)
theorem kind_u {N L k : Nat} (hk : k < 2 * N + 1) (h2 : k % 2 = 1) (hL : L % 2 = 0) (h15 : L < 15) : Kind N ((2 * N + 2) * L + k) (fun c => (stateAt true c).isSome) true false := by
  have hk' : k < 2 * N + 2 := by omega
  refine ⟨fun c => ?_, ?_, ?_⟩
  · unfold gOk okAt
    rw [pos_div hk', pos_mod hk', if_neg (by omega), if_pos hL, if_neg (by omega), decide_eq_true h15, Bool.true_and]
  · unfold upAt
    rw [pos_div hk', pos_mod hk']
    exact decide_eq_true (by omega)
  · unfold levAt
    rw [pos_div hk', pos_mod hk']
    exact decide_eq_false (by omega)
theorem kind_l {N L k : Nat} (hk : k < 2 * N + 2) (h2 : k % 2 = 0) (hL : L % 2 = 1) (h15 : L < 15) : Kind N ((2 * N + 2) * L + k) (fun c => (stateAt false c).isSome) false true := by
  refine ⟨fun c => ?_, ?_, ?_⟩
  · unfold gOk okAt
    rw [pos_div hk, pos_mod hk, if_neg (by omega), if_neg (by omega), if_pos h2, decide_eq_true h15, Bool.true_and]
  · unfold upAt
    rw [pos_div hk, pos_mod hk]
    exact decide_eq_false (by omega)
  · unfold levAt
    rw [pos_div hk, pos_mod hk]
    exact decide_eq_true (by omega)
theorem kind_b {N L k : Nat} (hk : k < 2 * N + 1) (h2 : k % 2 = 1) (hL : L % 2 = 1) (h15 : L < 15) : Kind N ((2 * N + 2) * L + k) (fun c => c == 32) false false := by
  have hk' : k < 2 * N + 2 := by omega
  refine ⟨fun c => ?_, ?_, ?_⟩
  · unfold gOk okAt
    rw [pos_div hk', pos_mod hk', if_neg (by omega), if_neg (by omega), if_neg (by omega), decide_eq_true h15, Bool.true_and]
  · unfold upAt
    rw [pos_div hk', pos_mod hk']
    exact decide_eq_false (by omega)
  · unfold levAt
    rw [pos_div hk', pos_mod hk']
    exact decide_eq_false (by omega)
theorem kind_e {N L : Nat} (h15 : L < 15) : Kind N ((2 * N + 2) * L + (2 * N + 1)) (fun c => c == 10) false false := by
  have hk' : 2 * N + 1 < 2 * N + 2 := by omega
  refine ⟨fun c => ?_, ?_, ?_⟩
  · unfold gOk okAt
    rw [pos_div hk', pos_mod hk', if_pos rfl, decide_eq_true h15, Bool.true_and]
  · unfold upAt
    rw [pos_div hk', pos_mod hk']
    exact decide_eq_false (by omega)
  · unfold levAt
    rw [pos_div hk', pos_mod hk']
    exact decide_eq_false (by omega)
section
variable {N p : Nat} {f : UInt8 → Bool} {u v : Bool} (K : Kind N p f u v) {c : UInt8} {r : Bytes}
include K
theorem Kind.stop (h : f c = false) : faultFrom N p (c :: r) = some p := by
  show (if gOk N p c = true then _ else some p) = _
  rw [K.ok, h, if_neg (by decide)]
theorem Kind.on (h : f c = true) : faultFrom N p (c :: r) = faultFrom N (p + 1) r := by
  show (if gOk N p c = true then _ else some p) = _
  rw [K.ok, h, if_pos rfl]
theorem Kind.ups : upsFrom N p (c :: r) = (if u = true then [(stateAt true c).getD 0] else []) ++ upsFrom N (p + 1) r := by
  show (if upAt N p = true then _ else _) = _
  rw [K.up]
  cases u <;> rfl
theorem Kind.levs : levFrom N p (c :: r) = (if v = true then [(stateAt false c).getD 0] else []) ++ levFrom N (p + 1) r := by
  show (if levAt N p = true then _ else _) = _
  rw [K.lev]
  cases v <;> rfl
end
theorem fault_end_row {N L k : Nat} (hk : k < 2 * N + 2) (hL : L % 2 = 0) : faultFrom N ((2 * N + 2) * L + k) [] = some ((2 * N + 2) * L + k) := by
  unfold faultFrom
  rw [pos_div hk, pos_mod hk, if_pos (.inr hL)]
theorem fault_end_in {N L k : Nat} (hk : k < 2 * N + 2) (h0 : 0 < k) : faultFrom N ((2 * N + 2) * L + k) [] = some ((2 * N + 2) * L + k) := by
  unfold faultFrom
  rw [pos_mod hk, if_pos (.inl h0)]
/-- a line read, and what is behind it -/
def lineIs (N p n L : Nat) (t : Bytes) (row : Bool) (x : Line) : Prop := match x with
  | .error q => faultFrom N p t = some q
  | .ok (st, q, r) => q = (2 * N + 2) * (L + 1) ∧ st.length = n ∧ (q - p) + r.length = t.length ∧ faultFrom N p t = faultFrom N q r ∧ upsFrom N p t = (if row = true then st else []) ++ upsFrom N q r ∧ levFrom N p t = (if row = true then [] else st) ++ levFrom N q r
theorem rowIn_is {N L : Nat} (hL : L % 2 = 0) (h15 : L < 15) : ∀ (n k : Nat) (t : Bytes), k + 2 * n = 2 * N → lineIs N ((2 * N + 2) * L + k) n L t true (rowIn n ((2 * N + 2) * L + k) t)
  | 0, k, t => fun hk => by
    have ek : k = 2 * N := by omega
    have K0 := kind_o (N := N) (L := L) (k := k) (by omega) (by omega) hL h15
    have K1 : Kind N ((2 * N + 2) * L + k + 1) (fun c => c == 10) false false := by rw [Nat.add_assoc, ek]; exact kind_e h15
    match t with
    | [] => exact fault_end_row (by omega) hL
    | [a] =>
      by_cases ha : a = 111
      · subst ha
        show faultFrom N _ _ = some _
        rw [K0.on (by decide), Nat.add_assoc]
        exact fault_end_row (by omega) hL
      · have e : rowIn 0 ((2 * N + 2) * L + k) [a] = .error ((2 * N + 2) * L + k) := by
          unfold rowIn
          split
          · rename_i e; cases e
          · rename_i e; cases e; exact absurd rfl ha
          · rfl
        rw [e]
        exact K0.stop (by simp [ha])
    | a :: b :: r =>
      by_cases ha : a = 111
      · subst ha
        by_cases hb : b = 10
        · subst hb
          refine ⟨by rw [Nat.mul_add]; omega, rfl, ?_, ?_, ?_, ?_⟩
          · show _ = r.length + 1 + 1
            omega
          · rw [K0.on (by decide), K1.on (by decide)]
          · rw [K0.ups, K1.ups]
            rfl
          · rw [K0.levs, K1.levs]
            rfl
        · have e : rowIn 0 ((2 * N + 2) * L + k) (111 :: b :: r) = .error ((2 * N + 2) * L + k + 1) := by
            unfold rowIn
            split
            · rename_i e; cases e; exact absurd rfl hb
            · rfl
            · rename_i h1 h2; exact absurd rfl (h2 _)
          rw [e]
          show faultFrom N _ _ = some _
          rw [K0.on (by decide)]
          exact K1.stop (by simp [hb])
      · have e : rowIn 0 ((2 * N + 2) * L + k) (a :: b :: r) = .error ((2 * N + 2) * L + k) := by
          unfold rowIn
          split
          · rename_i e; cases e; exact absurd rfl ha
          · rename_i e; cases e; exact absurd rfl ha
          · rfl
        rw [e]
        exact K0.stop (by simp [ha])
  | n + 1, k, t => fun hk => by
    have K0 := kind_o (N := N) (L := L) (k := k) (by omega) (by omega) hL h15
    have K1 : Kind N ((2 * N + 2) * L + k + 1) (fun c => (stateAt true c).isSome) true false := by rw [Nat.add_assoc]; exact kind_u (by omega) (by omega) hL h15
    match t with
    | [] => exact fault_end_row (by omega) hL
    | [a] =>
      by_cases ha : a = 111
      · subst ha
        show faultFrom N _ _ = some _
        rw [K0.on (by decide), Nat.add_assoc]
        exact fault_end_row (by omega) hL
      · have e : rowIn (n + 1) ((2 * N + 2) * L + k) [a] = .error ((2 * N + 2) * L + k) := by
          unfold rowIn
          split
          · rename_i e; cases e
          · rename_i e; cases e; exact absurd rfl ha
          · rfl
        rw [e]
        exact K0.stop (by simp [ha])
    | a :: b :: r =>
      by_cases ha : a = 111
      · subst ha
        cases hb : stateAt true b with
        | none =>
          have e : rowIn (n + 1) ((2 * N + 2) * L + k) (111 :: b :: r) = .error ((2 * N + 2) * L + k + 1) := by
            show (match stateAt true b with | some z => _ | none => _) = _
            rw [hb]
          rw [e]
          show faultFrom N _ _ = some _
          rw [K0.on (by decide)]
          exact K1.stop (by simp [hb])
        | some z =>
          have e : rowIn (n + 1) ((2 * N + 2) * L + k) (111 :: b :: r) = (rowIn n ((2 * N + 2) * L + (k + 2)) r).map fun (x : List Nat × Nat × Bytes) => (z :: x.1, x.2) := by
            show (match stateAt true b with | some z => _ | none => _) = _
            rw [hb]
            rfl
          rw [e]
          have ih := rowIn_is (N := N) hL h15 n (k + 2) r (by omega)
          cases hr : rowIn n ((2 * N + 2) * L + (k + 2)) r with
          | error q =>
            rw [hr] at ih
            show faultFrom N _ _ = some _
            rw [K0.on (by decide), K1.on (by simp [hb])]
            exact ih
          | ok x =>
            obtain ⟨st, q, r'⟩ := x
            rw [hr] at ih
            obtain ⟨i1, i2, i3, i4, i5, i6⟩ := ih
            refine ⟨i1, by rw [List.length_cons, i2], ?_, ?_, ?_, ?_⟩
            · show _ = r.length + 1 + 1
              rw [Nat.mul_add] at i1
              have i3' : q - ((2 * N + 2) * L + (k + 2)) + r'.length = r.length := i3
              have i1' : q = (2 * N + 2) * L + (2 * N + 2) * 1 := i1
              show q - ((2 * N + 2) * L + k) + r'.length = _
              omega
            · rw [K0.on (by decide), K1.on (by simp [hb])]
              exact i4
            · rw [K0.ups, K1.ups, hb]
              show z :: _ = z :: _
              exact congrArg _ i5
            · rw [K0.levs, K1.levs]
              exact i6
      · have e : rowIn (n + 1) ((2 * N + 2) * L + k) (a :: b :: r) = .error ((2 * N + 2) * L + k) := by
          unfold rowIn
          split
          · rename_i e; cases e; exact absurd rfl ha
          · rename_i e; cases e; exact absurd rfl ha
          · rfl
        rw [e]
        exact K0.stop (by simp [ha])
theorem betweenIn_is {N L : Nat} (hL : L % 2 = 1) (h15 : L < 15) : ∀ (n k : Nat) (t : Bytes), k + 2 * n = 2 * N → (0 < k ∨ t ≠ []) → lineIs N ((2 * N + 2) * L + k) (n + 1) L t false (betweenIn n ((2 * N + 2) * L + k) t)
  | 0, k, t => fun hk h0 => by
    have ek : k = 2 * N := by omega
    have K0 := kind_l (N := N) (L := L) (k := k) (by omega) (by omega) hL h15
    have K1 : Kind N ((2 * N + 2) * L + k + 1) (fun c => c == 10) false false := by rw [Nat.add_assoc, ek]; exact kind_e h15
    match t with
    | [] =>
      have h0 : 0 < k := by rcases h0 with z | z; exact z; exact absurd rfl z
      exact fault_end_in (by omega) h0
    | a :: r =>
      cases ha : stateAt false a with
      | none =>
        have e : betweenIn 0 ((2 * N + 2) * L + k) (a :: r) = .error ((2 * N + 2) * L + k) := by
          show (match stateAt false a, r with | some z, 10 :: q => _ | some _, _ => _ | none, _ => _) = _
          rw [ha]
        rw [e]
        exact K0.stop (by simp [ha])
      | some z =>
        match r with
        | [] =>
          have e : betweenIn 0 ((2 * N + 2) * L + k) [a] = .error ((2 * N + 2) * L + k + 1) := by
            simp only [betweenIn, ha]
          rw [e]
          show faultFrom N _ _ = some _
          rw [K0.on (by simp [ha]), Nat.add_assoc]
          exact fault_end_in (by omega) (by omega)
        | b :: r =>
          by_cases hb : b = 10
          · subst hb
            have e : betweenIn 0 ((2 * N + 2) * L + k) (a :: 10 :: r) = .ok ([z], (2 * N + 2) * L + k + 2, r) := by
              show (match stateAt false a, 10 :: r with | some z, 10 :: q => _ | some _, _ => _ | none, _ => _) = _
              rw [ha]
              rfl
            rw [e]
            refine ⟨by rw [Nat.mul_add]; omega, rfl, ?_, ?_, ?_, ?_⟩
            · show _ = r.length + 1 + 1
              omega
            · rw [K0.on (by simp [ha]), K1.on (by decide)]
            · rw [K0.ups, K1.ups]
              rfl
            · rw [K0.levs, K1.levs, ha]
              rfl
          · have e : betweenIn 0 ((2 * N + 2) * L + k) (a :: b :: r) = .error ((2 * N + 2) * L + k + 1) := by
              show (match stateAt false a, b :: r with | some z, 10 :: q => _ | some _, _ => _ | none, _ => _) = _
              rw [ha]
              split
              · rename_i e1 e2; cases e2; exact absurd rfl hb
              · rfl
              · rename_i e1; cases e1
            rw [e]
            show faultFrom N _ _ = some _
            rw [K0.on (by simp [ha])]
            exact K1.stop (by simp [hb])
  | n + 1, k, t => fun hk h0 => by
    have K0 := kind_l (N := N) (L := L) (k := k) (by omega) (by omega) hL h15
    have K1 : Kind N ((2 * N + 2) * L + k + 1) (fun c => c == 32) false false := by rw [Nat.add_assoc]; exact kind_b (by omega) (by omega) hL h15
    match t with
    | [] =>
      have h0 : 0 < k := by rcases h0 with z | z; exact z; exact absurd rfl z
      exact fault_end_in (by omega) h0
    | a :: r =>
      cases ha : stateAt false a with
      | none =>
        have e : betweenIn (n + 1) ((2 * N + 2) * L + k) (a :: r) = .error ((2 * N + 2) * L + k) := by
          show (match stateAt false a, r with | some z, 32 :: q => _ | some _, _ => _ | none, _ => _) = _
          rw [ha]
        rw [e]
        exact K0.stop (by simp [ha])
      | some z =>
        match r with
        | [] =>
          have e : betweenIn (n + 1) ((2 * N + 2) * L + k) [a] = .error ((2 * N + 2) * L + k + 1) := by
            simp only [betweenIn, ha]
          rw [e]
          show faultFrom N _ _ = some _
          rw [K0.on (by simp [ha]), Nat.add_assoc]
          exact fault_end_in (by omega) (by omega)
        | b :: r =>
          by_cases hb : b = 32
          · subst hb
            have e : betweenIn (n + 1) ((2 * N + 2) * L + k) (a :: 32 :: r) = (betweenIn n ((2 * N + 2) * L + (k + 2)) r).map fun (x : List Nat × Nat × Bytes) => (z :: x.1, x.2) := by
              show (match stateAt false a, 32 :: r with | some z, 32 :: q => _ | some _, _ => _ | none, _ => _) = _
              rw [ha]
              rfl
            rw [e]
            have ih := betweenIn_is (N := N) hL h15 n (k + 2) r (by omega) (.inl (by omega))
            cases hr : betweenIn n ((2 * N + 2) * L + (k + 2)) r with
            | error q =>
              rw [hr] at ih
              show faultFrom N _ _ = some _
              rw [K0.on (by simp [ha]), K1.on (by decide)]
              exact ih
            | ok x =>
              obtain ⟨st, q, r'⟩ := x
              rw [hr] at ih
              obtain ⟨i1, i2, i3, i4, i5, i6⟩ := ih
              refine ⟨i1, by rw [List.length_cons, i2], ?_, ?_, ?_, ?_⟩
              · show _ = r.length + 1 + 1
                rw [Nat.mul_add] at i1
                have i3' : q - ((2 * N + 2) * L + (k + 2)) + r'.length = r.length := i3
                have i1' : q = (2 * N + 2) * L + (2 * N + 2) * 1 := i1
                show q - ((2 * N + 2) * L + k) + r'.length = _
                omega
              · rw [K0.on (by simp [ha]), K1.on (by decide)]
                exact i4
              · rw [K0.ups, K1.ups]
                exact i5
              · rw [K0.levs, K1.levs, ha]
                show z :: _ = z :: _
                exact congrArg _ i6
          · have e : betweenIn (n + 1) ((2 * N + 2) * L + k) (a :: b :: r) = .error ((2 * N + 2) * L + k + 1) := by
              show (match stateAt false a, b :: r with | some z, 32 :: q => _ | some _, _ => _ | none, _ => _) = _
              rw [ha]
              split
              · rename_i e1 e2; cases e2; exact absurd rfl hb
              · rfl
              · rename_i e1; cases e1
            rw [e]
            show faultFrom N _ _ = some _
            rw [K0.on (by simp [ha])]
            exact K1.stop (by simp [hb])
theorem fault_end_odd {N L : Nat} (hL : L % 2 = 1) : faultFrom N ((2 * N + 2) * L) [] = none := by
  unfold faultFrom
  have e1 := pos_div (N := N) (L := L) (k := 0) (by omega)
  have e2 := pos_mod (N := N) (L := L) (k := 0) (by omega)
  rw [Nat.add_zero] at e1 e2
  rw [e1, e2, if_neg (by omega)]
theorem fault_beyond {N : Nat} (c : UInt8) (r : Bytes) : faultFrom N ((2 * N + 2) * 15) (c :: r) = some ((2 * N + 2) * 15) := by
  have e1 := pos_div (N := N) (L := 15) (k := 0) (by omega)
  rw [Nat.add_zero] at e1
  show (if gOk N _ c = true then _ else _) = _
  unfold gOk
  rw [e1, decide_eq_false (by omega), Bool.false_and, if_neg (by decide)]
def rowsIs (N p : Nat) (t : Bytes) (x : Except Nat (List (List Nat × List Nat))) : Prop := match x with
  | .error q => faultFrom N p t = some q
  | .ok l => faultFrom N p t = none ∧ t.length = (2 * N + 2) * (2 * l.length) ∧ upsFrom N p t = l.flatMap Prod.snd ∧ levFrom N p t = l.flatMap Prod.fst
theorem rowsIn_is {N : Nat} : ∀ (k L : Nat) (t : Bytes), L % 2 = 1 → L + 2 * k = 15 → rowsIs N ((2 * N + 2) * L) t (rowsIn N k ((2 * N + 2) * L) t)
  | k, L, [], hL, _ => by
    have e : rowsIn N k ((2 * N + 2) * L) [] = .ok [] := by cases k <;> rfl
    rw [e]
    exact ⟨fault_end_odd hL, rfl, rfl, rfl⟩
  | 0, L, c :: r, hL, hk => by
    have : L = 15 := by omega
    subst this
    exact fault_beyond c r
  | k + 1, L, c :: r, hL, hk => by
    have B := betweenIn_is (N := N) (L := L) hL (by omega) N 0 (c :: r) (by omega) (.inr (by simp))
    rw [Nat.add_zero] at B
    show rowsIs N _ _ (match betweenIn N ((2 * N + 2) * L) (c :: r) with | .error q => .error q | .ok (l, p, t) => match rowIn N p t with | .error q => .error q | .ok (u, p, t) => (rowsIn N k p t).map fun (x : List (List Nat × List Nat)) => (l, u) :: x)
    cases hb : betweenIn N ((2 * N + 2) * L) (c :: r) with
    | error q => rw [hb] at B; exact B
    | ok x =>
      obtain ⟨l, p1, t1⟩ := x
      rw [hb] at B
      obtain ⟨b1, b2, b3, b4, b5, b6⟩ := B
      have R := rowIn_is (N := N) (L := L + 1) (by omega) (by omega) N 0 t1 (by omega)
      rw [Nat.add_zero] at R
      subst b1
      show rowsIs N _ _ (match rowIn N ((2 * N + 2) * (L + 1)) t1 with | .error q => .error q | .ok (u, p, t) => (rowsIn N k p t).map fun (x : List (List Nat × List Nat)) => (l, u) :: x)
      cases hr : rowIn N ((2 * N + 2) * (L + 1)) t1 with
      | error q =>
        rw [hr] at R
        show faultFrom N _ _ = some _
        rw [b4]
        exact R
      | ok y =>
        obtain ⟨u, p2, t2⟩ := y
        rw [hr] at R
        obtain ⟨r1, r2, r3, r4, r5, r6⟩ := R
        subst r1
        have ih := rowsIn_is (N := N) k (L + 1 + 1) t2 (by omega) (by omega)
        show rowsIs N _ _ ((rowsIn N k ((2 * N + 2) * (L + 1 + 1)) t2).map fun (x : List (List Nat × List Nat)) => (l, u) :: x)
        cases hx : rowsIn N k ((2 * N + 2) * (L + 1 + 1)) t2 with
        | error q =>
          rw [hx] at ih
          show faultFrom N _ _ = some _
          rw [b4, r4]
          exact ih
        | ok z =>
          rw [hx] at ih
          obtain ⟨i1, i2, i3, i4⟩ := ih
          refine ⟨by rw [b4, r4]; exact i1, ?_, ?_, ?_⟩
          · show (c :: r).length = (2 * N + 2) * (2 * (z.length + 1))
            rw [← b3, ← r3, i2, Nat.mul_add 2 z.length 1, Nat.mul_add (2 * N + 2) (2 * z.length), Nat.mul_add (2 * N + 2) (L + 1) 1, Nat.mul_add (2 * N + 2) L 1]
            omega
          · rw [b5, r5, i3]
            rfl
          · rw [b6, r6, i4]
            rfl
theorem idx_ne {a b : UInt8} {l : Bytes} (h : a ≠ b) : (a :: l).idxOf b = l.idxOf b + 1 := by
  rw [List.idxOf_cons, beq_eq_false_iff_ne.mpr h]
  rfl
theorem firstIn_is : ∀ (m p : Nat) (t : Bytes), firstIn (m + 1) p t = rowIn (min (t.idxOf 10 / 2) m) p t
  | m, p, [] => by
    cases m <;> rfl
  | m, p, [a] => by
    by_cases ha : a = 111
    · subst ha
      have e : ([111] : Bytes).idxOf 10 / 2 = 0 := by decide
      rw [e, Nat.zero_min]
      rfl
    · have e1 : firstIn (m + 1) p [a] = .error p := by
        unfold firstIn
        split
        · rename_i e; cases e
        · rename_i e; cases e; exact absurd rfl ha
        · rfl
      have e2 : ∀ n, rowIn n p [a] = .error p := fun n => by
        cases n with
        | zero =>
          unfold rowIn
          split
          · rename_i e; cases e
          · rename_i e; cases e; exact absurd rfl ha
          · rfl
        | succ n =>
          unfold rowIn
          split
          · rename_i e; cases e
          · rename_i e; cases e; exact absurd rfl ha
          · rfl
      rw [e1, e2]
  | m, p, a :: b :: r => by
    by_cases ha : a = 111
    · subst ha
      by_cases hb : b = 10
      · subst hb
        have e : (111 :: 10 :: r : Bytes).idxOf 10 / 2 = 0 := by
          rw [idx_ne (by decide), List.idxOf_cons_self]
        rw [e, Nat.zero_min]
        rfl
      · have e : (111 :: b :: r : Bytes).idxOf 10 = r.idxOf 10 + 2 := by
          rw [idx_ne (by decide), idx_ne hb]
        rw [e]
        have e0 : firstIn (m + 1) p (111 :: b :: r) = if b = 10 then .ok ([], p + 2, r) else if m = 0 then .error (p + 1) else (match stateAt true b with
            | some z => (firstIn m (p + 2) r).map fun (x : List Nat × Nat × Bytes) => (z :: x.1, x.2)
            | none => .error (p + 1)) := rfl
        rw [e0, if_neg hb]
        cases m with
        | zero =>
          rw [if_pos rfl, Nat.min_zero]
          unfold rowIn
          split
          · rename_i e; cases e; exact absurd rfl hb
          · rfl
          · rename_i h1 h2; exact absurd rfl (h2 _)
        | succ m =>
          rw [if_neg (by omega), show min ((r.idxOf 10 + 2) / 2) (m + 1) = min (r.idxOf 10 / 2) m + 1 by omega]
          show _ = (match stateAt true b with | some z => (rowIn _ (p + 2) r).map _ | none => _)
          rw [firstIn_is m (p + 2) r]
    · have e1 : firstIn (m + 1) p (a :: b :: r) = .error p := by
        unfold firstIn
        split
        · rename_i e; cases e; exact absurd rfl ha
        · rename_i e; cases e; exact absurd rfl ha
        · rfl
      have e2 : ∀ n, rowIn n p (a :: b :: r) = .error p := fun n => by
        cases n with
        | zero =>
          unfold rowIn
          split
          · rename_i e; cases e; exact absurd rfl ha
          · rename_i e; cases e; exact absurd rfl ha
          · rfl
        | succ n =>
          unfold rowIn
          split
          · rename_i e; cases e; exact absurd rfl ha
          · rename_i e; cases e; exact absurd rfl ha
          · rfl
      rw [e1, e2]
/-- squares in a row, beside the first -/
def besideN (t : Bytes) : Nat := min (t.idxOf 10 / 2) 7
/-- a drawing read, place by place -/
theorem read_is (t : Bytes) : match readDrawing t with
    | .error q => faultFrom (besideN t) 0 t = some q
    | .ok D => faultFrom (besideN t) 0 t = none ∧ D = ⟨besideN t + 1, (t.length / (2 * besideN t + 2) + 1) / 2, upsFrom (besideN t) 0 t ++ levFrom (besideN t) 0 t⟩ := by
  have F : firstIn SIDE 0 t = rowIn (besideN t) 0 t := firstIn_is 7 0 t
  generalize besideN t = N at F ⊢
  have R := rowIn_is (N := N) (L := 0) rfl (by omega) N 0 t (by omega)
  rw [Nat.mul_zero, Nat.zero_add] at R
  unfold readDrawing
  rw [F]
  cases hr : rowIn N 0 t with
  | error q => rw [hr] at R; exact R
  | ok y =>
    obtain ⟨u, p, r⟩ := y
    rw [hr] at R
    obtain ⟨r1, r2, r3, r4, r5, r6⟩ := R
    have S := rowsIn_is (N := N) 7 1 r rfl rfl
    rw [Nat.zero_add] at r1
    subst r1
    have ex : ∀ (x : Except Nat (List (List Nat × List Nat))), rowsIs N ((2 * N + 2) * 1) r x → match (x.map fun (x : List (List Nat × List Nat)) => (⟨u.length + 1, x.length + 1, u ++ (x.flatMap Prod.snd ++ x.flatMap Prod.fst)⟩ : Panel)) with
      | .error q => faultFrom N 0 t = some q
      | .ok D => faultFrom N 0 t = none ∧ D = ⟨N + 1, (t.length / (2 * N + 2) + 1) / 2, upsFrom N 0 t ++ levFrom N 0 t⟩ := by
      intro x hx
      cases x with
      | error q => 
        show faultFrom N 0 t = some q
        rw [r4]
        exact hx
      | ok l =>
        obtain ⟨i1, i2, i3, i4⟩ := hx
        refine ⟨by rw [r4]; exact i1, ?_⟩
        rw [r2, r5, r6, i3, i4]
        have el : t.length / (2 * N + 2) = 1 + 2 * l.length := by
          have e3 : (2 * N + 2) * 1 - 0 + r.length = t.length := r3
          rw [← e3, i2, Nat.sub_zero, ← Nat.mul_add, Nat.mul_div_cancel_left _ (by omega)]
        rw [el, show (1 + 2 * l.length + 1) / 2 = l.length + 1 by omega]
        show (⟨_, _, u ++ (_ ++ _)⟩ : Panel) = ⟨_, _, (u ++ _) ++ ([] ++ _)⟩
        rw [List.append_assoc, List.nil_append]
    have S' : rowsIs N ((2 * N + 2) * 1) r (rowsIn u.length (SIDE - 1) ((2 * N + 2) * 1) r) := by rw [r2]; exact S
    exact ex _ S'
end Il

set_option linter.all false
set_option maxRecDepth 100000
namespace Il
open PySem PySem.Spec PyProof.Rows L2 L3
/-! ### a drawing read -/
def signsAt (N i : Nat) : List Int := if i % (2 * N + 2) = 2 * N + 1 then [10]
  else if i / (2 * N + 2) % 2 = 0 then (if i % (2 * N + 2) % 2 = 0 then [111] else [120, 124, 45])
  else (if i % (2 * N + 2) % 2 = 0 then [120, 45, 124] else [32])
abbrev nOf (b : List Int) : Nat := besideN (bOf b)
def sp_measure_wide (K : PySem.W.Frag) : Sp := fun vs H Q _ => ∃ (a : Addr) (b : List Int), vs = [.ref a] ∧ (BAt K H a b ∧ Q (.int (((nOf b : Nat) : Int) + 1)) H)
theorem ln_measure_wide {K : PySem.W.Frag} {vs : List V} {H : Hp} {Q : VK} {E : XK} (h : sp_measure_wide K vs H Q E) : vs.length = 1 := by obtain ⟨_, _, rfl, _⟩ := h; rfl
def sp_list_signs (K : PySem.W.Frag) : Sp := fun vs H Q _ => ∃ (i : Nat) (N : Nat), vs = [.int i, .int ((N : Int) + 1)] ∧ (N ≤ 7 ∧ i ≤ 2000 ∧ ∀ H' l, Same H H' → SqT K H' l ((signsAt N i).map V.int) → ((signsAt N i).length = 3 → TupK K l) → Q (.ref l) H')
theorem ln_list_signs {K : PySem.W.Frag} {vs : List V} {H : Hp} {Q : VK} {E : XK} (h : sp_list_signs K vs H Q E) : vs.length = 2 := by obtain ⟨_, _, rfl, _⟩ := h; rfl
def sp_find_drawing_fault (K : PySem.W.Frag) : Sp := fun vs H Q _ => ∃ (a : Addr) (b : List Int), vs = [.ref a] ∧ (BAt K H a b ∧ (faultFrom (nOf b) 0 (bOf b) = none → ∀ H', Same H H' → Q .non H') ∧ ∀ p : Nat, faultFrom (nOf b) 0 (bOf b) = some p → ∀ H', Same H H' → Q (.int p) H')
theorem ln_find_drawing_fault {K : PySem.W.Frag} {vs : List V} {H : Hp} {Q : VK} {E : XK} (h : sp_find_drawing_fault K vs H Q E) : vs.length = 1 := by obtain ⟨_, _, rfl, _⟩ := h; rfl
def sp_read_panel (K : PySem.W.Frag) : Sp := fun vs H Q _ => ∃ (a : Addr) (b : List Int), vs = [.ref a] ∧ (BAt K H a b ∧ faultFrom (nOf b) 0 (bOf b) = none ∧ NewL Q H ([80, 76, 80, 49] ++ [((nOf b : Nat) : Int) + 1, (((b.length / (2 * nOf b + 2) + 1) / 2 : Nat) : Int)] ++ ofN (upsFrom (nOf b) 0 (bOf b)) ++ ofN (levFrom (nOf b) 0 (bOf b))))
theorem ln_read_panel {K : PySem.W.Frag} {vs : List V} {H : Hp} {Q : VK} {E : XK} (h : sp_read_panel K vs H Q E) : vs.length = 1 := by obtain ⟨_, _, rfl, _⟩ := h; rfl
def sp_read (K : PySem.W.Frag) : Sp := fun vs H Q _ => ∃ (a : Addr) (b : List Int), vs = [.ref a] ∧ (BAt K H a b ∧ Ans Q (PyWqbacf.read b))
theorem ln_read {K : PySem.W.Frag} {vs : List V} {H : Hp} {Q : VK} {E : XK} (h : sp_read K vs H Q E) : vs.length = 1 := by obtain ⟨_, _, rfl, _⟩ := h; rfl
def t_measure_wide (K : PySem.W.Frag) : TS :=
  (tSeq (tAsg (tIf (tTest (tOp (rIn K false) (tC (.int 10)) (tVar 0))) (tBM K "list" (rIndex K) (tVar 0) (tCons (tC (.int 10)) tNil)) (tCB (rLen K) (tCons (tVar 0) tNil))) (gName 1))
    (tRet (tCB (rMin2) (tCons (tOp (rI0 fun i j => .int (i + j)) (tOp (rI CDiv fun i j => .int (i / j)) (tVar 1) (tC (.int 2))) (tC (.int 1))) (tCons (tC (.int 8)) tNil)))))
def t_list_signs (K : PySem.W.Frag) (a_LEVEL_SIGNS : Addr) (a_UPRIGHT_SIGNS : Addr) : TS :=
  (tSeq (tAsg (tOp (rI CDiv fun i j => .int (i / j)) (tVar 0) (tOp (rI CMul fun i j => .int (i * j)) (tC (.int 2)) (tVar 1))) (gName 2))
    (tSeq (tAsg (tOp (rI (fun _ j => 0 < j) fun i j => .int (i % j)) (tVar 0) (tOp (rI CMul fun i j => .int (i * j)) (tC (.int 2)) (tVar 1))) (gName 3))
    (tSeq (tIfS (tTest (tOp rEq (tVar 3) (tOp (rI0 fun i j => .int (i - j)) (tOp (rI CMul fun i j => .int (i * j)) (tC (.int 2)) (tVar 1)) (tC (.int 1))))) (tRet (tTup (tCons (tC (.int 10)) tNil))) tNext)
    (tSeq (tIfS (tTest (tOp rEq (tOp (rI (fun _ j => 0 < j) fun i j => .int (i % j)) (tVar 2) (tC (.int 2))) (tC (.int 0)))) (tRet (tIf (tTest (tOp rEq (tOp (rI (fun _ j => 0 < j) fun i j => .int (i % j)) (tVar 3) (tC (.int 2))) (tC (.int 0)))) (tTup (tCons (tC (.int 111)) tNil)) (tC (.ref a_UPRIGHT_SIGNS)))) tNext)
    (tRet (tIf (tTest (tOp rEq (tOp (rI (fun _ j => 0 < j) fun i j => .int (i % j)) (tVar 3) (tC (.int 2))) (tC (.int 0)))) (tC (.ref a_LEVEL_SIGNS)) (tTup (tCons (tC (.int 32)) tNil))))))))
def t_find_drawing_fault (K : PySem.W.Frag) : TS :=
  (tSeq (tAsg (tOwn (sp_measure_wide K) (tCons (tVar 0) tNil)) (gName 1))
    (tSeq (tAsg (tOp (rI0 fun i j => .int (i - j)) (tOp (rI CMul fun i j => .int (i * j)) (tC (.int 2)) (tC (.int 8))) (tC (.int 1))) (gName 2))
    (tSeq (tFor (iEnum K (tCons (tVar 0) tNil)) (gTup K 2 (gCons (gName 3) (gCons (gName 4) gNil))) (tIfS (tOr (tTest (tOp rEq (tVar 3) (tOp (rI CMul fun i j => .int (i * j)) (tOp (rI CMul fun i j => .int (i * j)) (tC (.int 2)) (tVar 1)) (tVar 2)))) (tTest (tOp (rIn K true) (tVar 4) (tOwn (sp_list_signs K) (tCons (tVar 3) (tCons (tVar 1) tNil)))))) (tRet (tVar 3)) tNext))
    (tSeq (tIfS (tOr (tTest (tOp (rI0 fun i j => .bl (decide (j < i))) (tOp (rI (fun _ j => 0 < j) fun i j => .int (i % j)) (tCB (rLen K) (tCons (tVar 0) tNil)) (tOp (rI CMul fun i j => .int (i * j)) (tC (.int 2)) (tVar 1))) (tC (.int 0)))) (tTest (tOp rEq (tOp (rI (fun _ j => 0 < j) fun i j => .int (i % j)) (tOp (rI CDiv fun i j => .int (i / j)) (tCB (rLen K) (tCons (tVar 0) tNil)) (tOp (rI CMul fun i j => .int (i * j)) (tC (.int 2)) (tVar 1))) (tC (.int 2))) (tC (.int 0))))) (tRet (tCB (rLen K) (tCons (tVar 0) tNil))) tNext)
    (tRet (tC .non))))))
def t_read_panel (K : PySem.W.Frag) (a_LEVEL_SIGNS : Addr) (a_MARK : Addr) (a_UPRIGHT_SIGNS : Addr) : TS :=
  (tSeq (tAsg (tOwn (sp_measure_wide K) (tCons (tVar 0) tNil)) (gName 1))
    (tSeq (tAsg (tOp (rI CDiv fun i j => .int (i / j)) (tOp (rI0 fun i j => .int (i + j)) (tOp (rI CDiv fun i j => .int (i / j)) (tCB (rLen K) (tCons (tVar 0) tNil)) (tOp (rI CMul fun i j => .int (i * j)) (tC (.int 2)) (tVar 1))) (tC (.int 1))) (tC (.int 2))) (gName 2))
    (tSeq (tAsg (tLst tNil) (gName 3))
    (tSeq (tAsg (tLst tNil) (gName 4))
    (tSeq (tFor (iEnum K (tCons (tVar 0) tNil)) (gTup K 2 (gCons (gName 5) (gCons (gName 6) gNil))) (tSeq (tAsg (tOwn (sp_list_signs K) (tCons (tVar 5) (tCons (tVar 1) tNil))) (gName 7))
    (tSeq (tIfS (tTest (tOp (rEqD K) (tVar 7) (tC (.ref a_UPRIGHT_SIGNS)))) (tDrop (tBM K "list" (rAppend) (tVar 3) (tCons (tBM K "tuple" (rTupIx K) (tVar 7) (tCons (tVar 6) tNil)) tNil))) tNext)
    (tIfS (tTest (tOp (rEqD K) (tVar 7) (tC (.ref a_LEVEL_SIGNS)))) (tDrop (tBM K "list" (rAppend) (tVar 4) (tCons (tBM K "tuple" (rTupIx K) (tVar 7) (tCons (tVar 6) tNil)) tNil))) tNext))))
    (tRet (tOp rCat (tOp rCat (tOp rCat (tCB (rLst K) (tCons (tC (.ref a_MARK)) tNil)) (tLst (tCons (tVar 1) (tCons (tVar 2) tNil)))) (tVar 3)) (tVar 4))))))))
def t_read (K : PySem.W.Frag) : TS :=
  (tSeq (tIfS (tB (tOwn (sp_is_too_long K) (tCons (tVar 0) tNil))) (tRet (tLst (tCons (tC (.int (-2))) tNil))) tNext)
    (tSeq (tAsg (tOwn (sp_find_drawing_fault K) (tCons (tVar 0) tNil)) (gName 1))
    (tSeq (tIfS (tTest (tOp rNotN (tVar 1) (tC .non))) (tRet (tLst (tCons (tC (.int (-6))) (tCons (tVar 1) tNil)))) tNext)
    (tRet (tOwn (sp_tell_list K) (tCons (tOwn (sp_read_panel K) (tCons (tVar 0) tNil)) tNil))))))
theorem R_indexZ {K : PySem.W.Frag} {H : Hp} {Q : VK} {l : Addr} {ns : List Int} {n : Int} (h : SqL K H l (ns.map V.int)) (hn : n ∈ ns) (q : Q (.int ((ns.idxOf n : Nat) : Int)) H) : rIndex K (.ref l) [.int n] H Q := by
  have hlt := List.idxOf_lt_length_of_mem hn
  refine ⟨l, _, .int n, ns.idxOf n, .int n, rfl, rfl, h, rfl, ?_, ?_, ?_, ?_, q⟩
  · rw [List.all_eq_true]
    intro x hx
    obtain ⟨y, _, rfl⟩ := List.mem_map.mp hx
    rfl
  · rw [List.getElem?_map, List.getElem?_eq_getElem hlt, List.getElem_idxOf hlt]
    rfl
  · simp [eqV]
  · intro m z hm hz
    rw [List.getElem?_map] at hz
    obtain ⟨y, hy, rfl⟩ := Option.map_eq_some_iff.mp hz
    show (y == n) = false
    rw [beq_eq_false_iff_ne]
    intro e
    subst e
    have := List.not_of_lt_findIdx (p := fun x => x == y) (xs := ns) (i := m) hm
    have hml : m < ns.length := by omega
    rw [List.getElem?_eq_getElem hml] at hy
    rw [Option.some.inj hy] at this
    simp at this
theorem inZ (n : Int) (ns : List Int) : inV (.int n) (ns.map V.int) = ns.contains n := by
  unfold inV
  rw [List.any_map]
  induction ns with
  | nil => rfl
  | cons x r ih =>
    rw [List.any_cons, List.contains_cons, ih]
    congr 1
    show (x == n) = (n == x)
    exact Bool.beq_comm ..
theorem flatZ (ns : List Int) : (ns.map V.int).all flatV = true := by
  rw [List.all_eq_true]
  intro x hx
  obtain ⟨y, _, rfl⟩ := List.mem_map.mp hx
  rfl
theorem idx_bytes : ∀ {b : List Int}, Byt b → (bOf b).idxOf 10 = b.idxOf 10
  | [], _ => rfl
  | x :: r, h => by
    have hx := h x (List.mem_cons_self ..)
    have ih := idx_bytes (b := r) fun y m => h y (List.mem_cons_of_mem _ m)
    show (UInt8.ofNat x.toNat :: bOf r).idxOf 10 = _
    rw [List.idxOf_cons, List.idxOf_cons, ih]
    have e : (UInt8.ofNat x.toNat == 10) = (x == 10) := by
      obtain ⟨n, rfl⟩ : ∃ n : Nat, x = n := ⟨x.toNat, by omega⟩
      have hn : n < 256 := by omega
      rw [Int.toNat_natCast]
      have : ∀ m : Fin 256, (UInt8.ofNat m.val == 10) = (((m.val : Nat) : Int) == 10) := by decide +kernel
      exact this ⟨n, hn⟩
    rw [e]
theorem rd_measure_wide {K : PySem.W.Frag} {vs : List V} {H : Hp} {Q : VK} {E : XK} (h : sp_measure_wide K vs H Q E) : t_measure_wide K { nx := fun _ H' => Q .non H', rt := Q } (start ["t", "length"] vs) H := by
  obtain ⟨a, b, rfl, ⟨hb, q⟩⟩ := h
  show t_measure_wide K _ [some (.ref a), none] H
  unfold t_measure_wide
  walk_at "go"
  have hq := hb.sq
  have hlen := hb.len
  have en : nOf b = min (b.idxOf 10 / 2) 7 := by unfold nOf besideN; rw [idx_bytes hb.byt]
  refine ⟨a, _, rfl, .inl hq, rfl, flatZ b, ?_⟩
  rw [if_neg (by decide : ¬ false = true), inZ]
  refine ⟨_, rfl, ?_⟩
  have hle : b.idxOf 10 ≤ b.length := List.idxOf_le_length
  by_cases c : (10 : Int) ∈ b
  · rw [List.contains_iff_mem.mpr c, if_pos rfl]
    walk_at "go"
    refine ⟨ty_list hq, ?_⟩
    walk_at "go"
    refine R_indexZ hq c ?_
    walk_at "go"
    rw [en] at q
    have e : (if (8 : Int) < ((b.idxOf 10 : Nat) : Int) / 2 + 1 then (8 : Int) else ((b.idxOf 10 : Nat) : Int) / 2 + 1) = ((min (b.idxOf 10 / 2) 7 : Nat) : Int) + 1 := by split <;> omega
    rw [e]
    exact q
  · have e0 : b.contains (10 : Int) = false := by
      cases h : b.contains (10 : Int)
      · rfl
      · exact absurd (List.contains_iff_mem.mp h) c
    rw [e0, if_neg (by decide)]
    walk_at "go"
    have e1 : b.idxOf 10 = b.length := List.idxOf_eq_length c
    rw [en, e1] at q
    have e : (if (8 : Int) < ((b.length : Nat) : Int) / 2 + 1 then (8 : Int) else ((b.length : Nat) : Int) / 2 + 1) = ((min (b.length / 2) 7 : Nat) : Int) + 1 := by split <;> omega
    rw [e]
    exact q
theorem rd_list_signs {K : PySem.W.Frag} {vs : List V} {H : Hp} {Q : VK} {E : XK} {a_LEVEL_SIGNS a_UPRIGHT_SIGNS : Addr} (h_UPRIGHT_SIGNS : ∀ H, SqT K H a_UPRIGHT_SIGNS [.int 120, .int 124, .int 45]) (h_LEVEL_SIGNS : ∀ H, SqT K H a_LEVEL_SIGNS [.int 120, .int 45, .int 124]) (k_UPRIGHT_SIGNS : TupK K a_UPRIGHT_SIGNS) (k_LEVEL_SIGNS : TupK K a_LEVEL_SIGNS) (h : sp_list_signs K vs H Q E) : t_list_signs K a_LEVEL_SIGNS a_UPRIGHT_SIGNS { nx := fun _ H' => Q .non H', rt := Q } (start ["at", "wide", "line", "column"] vs) H := by
  obtain ⟨i, N, rfl, ⟨hN, hi, q⟩⟩ := h
  show t_list_signs K a_LEVEL_SIGNS a_UPRIGHT_SIGNS _ [some (.int i), some (.int ((N : Int) + 1)), none, none] H
  unfold t_list_signs
  walk_at "go"
  have e0 : 2 * ((N : Int) + 1) = ((2 * N + 2 : Nat) : Int) := by omega
  have e1 : (i : Int) / (2 * ((N : Int) + 1)) = ((i / (2 * N + 2) : Nat) : Int) := by rw [e0, Int.natCast_ediv]
  have e2 : (i : Int) % (2 * ((N : Int) + 1)) = ((i % (2 * N + 2) : Nat) : Int) := by rw [e0, Int.natCast_emod]
  rw [e1, e2]
  generalize hc : i % (2 * N + 2) = c at *
  generalize hl : i / (2 * N + 2) = l at *
  walk_at "if"
  · rename_i z
    walk_at "go"
    rename_i l1 H1 n1 s1 e1
    have es : signsAt N i = [10] := by unfold signsAt; rw [hc, if_pos (by omega)]
    rw [es] at q
    exact q _ _ s1 (SqT.of e1) (fun h => by simp at h)
  rename_i z
  walk_at "go"
  walk_at "if"
  · rename_i z1
    walk_at "go"
    walk_at "if"
    · rename_i z2
      walk_at "go"
      rename_i l1 H1 n1 s1 e1
      have es : signsAt N i = [111] := by unfold signsAt; rw [hc, hl, if_neg (by omega), if_pos (by omega), if_pos (by omega)]
      rw [es] at q
      exact q _ _ s1 (SqT.of e1) (fun h => by simp at h)
    · rename_i z2
      walk_at "go"
      have es : signsAt N i = [120, 124, 45] := by unfold signsAt; rw [hc, hl, if_neg (by omega), if_pos (by omega), if_neg (by omega)]
      rw [es] at q
      exact q _ _ (Same.refl _) (h_UPRIGHT_SIGNS _) (fun _ => k_UPRIGHT_SIGNS)
  · rename_i z1
    walk_at "go"
    walk_at "if"
    · rename_i z2
      walk_at "go"
      have es : signsAt N i = [120, 45, 124] := by unfold signsAt; rw [hc, hl, if_neg (by omega), if_neg (by omega), if_pos (by omega)]
      rw [es] at q
      exact q _ _ (Same.refl _) (h_LEVEL_SIGNS _) (fun _ => k_LEVEL_SIGNS)
    · rename_i z2
      walk_at "go"
      rename_i l1 H1 n1 s1 e1
      have es : signsAt N i = [32] := by unfold signsAt; rw [hc, hl, if_neg (by omega), if_neg (by omega), if_neg (by omega)]
      rw [es] at q
      exact q _ _ s1 (SqT.of e1) (fun h => by simp at h)
theorem n7 (b : List Int) : nOf b ≤ 7 := Nat.min_le_right _ _
theorem drop_at {α : Type} {l : List α} {k : Nat} {c : α} (h : l[k]? = some c) : l.drop k = c :: l.drop (k + 1) := by
  obtain ⟨hk, e⟩ := List.getElem?_eq_some_iff.mp h
  rw [List.drop_eq_getElem_cons hk, e]
theorem byte_at {b : List Int} {k : Nat} {n : Int} (h : b[k]? = some n) : (bOf b)[k]? = some (UInt8.ofNat n.toNat) := by
  unfold bOf
  rw [List.getElem?_map, h]
  rfl
theorem ok_signs (N i : Nat) {n : Int} (h0 : 0 ≤ n) (h1 : n ≤ 255) : (signsAt N i).contains n = okAt N i (UInt8.ofNat n.toNat) := by
  obtain ⟨m, rfl⟩ : ∃ m : Nat, n = m := ⟨n.toNat, by omega⟩
  rw [Int.toNat_natCast]
  have hm : m < 256 := by omega
  have a1 : ∀ m : Fin 256, ([10] : List Int).contains ((m.val : Nat) : Int) = (UInt8.ofNat m.val == 10) := by decide +kernel
  have a2 : ∀ m : Fin 256, ([111] : List Int).contains ((m.val : Nat) : Int) = (UInt8.ofNat m.val == 111) := by decide +kernel
  have a3 : ∀ m : Fin 256, ([32] : List Int).contains ((m.val : Nat) : Int) = (UInt8.ofNat m.val == 32) := by decide +kernel
  have a4 : ∀ m : Fin 256, ([120, 124, 45] : List Int).contains ((m.val : Nat) : Int) = (Plait.stateAt true (UInt8.ofNat m.val)).isSome := by decide +kernel
  have a5 : ∀ m : Fin 256, ([120, 45, 124] : List Int).contains ((m.val : Nat) : Int) = (Plait.stateAt false (UInt8.ofNat m.val)).isSome := by decide +kernel
  unfold signsAt okAt
  split
  · exact a1 ⟨m, hm⟩
  · split
    · split
      · exact a2 ⟨m, hm⟩
      · exact a4 ⟨m, hm⟩
    · split
      · exact a5 ⟨m, hm⟩
      · exact a3 ⟨m, hm⟩
theorem rd_find_drawing_fault {K : PySem.W.Frag} {vs : List V} {H : Hp} {Q : VK} {E : XK} (h : sp_find_drawing_fault K vs H Q E) : t_find_drawing_fault K { nx := fun _ H' => Q .non H', rt := Q } (start ["t", "wide", "most_lines", "at", "sign"] vs) H := by
  obtain ⟨a, b, rfl, ⟨hb, q0, q1⟩⟩ := h
  show t_find_drawing_fault K _ [some (.ref a), none, none, none, none] H
  unfold t_find_drawing_fault
  walk_at "go"
  refine ⟨a, b, rfl, hb, ?_⟩
  walk_at "go"
  have hn7 := n7 b
  have hq := hb.sq
  generalize nOf b = N at *
  refine R_itE hq ?_
  refine loop_enum (xs := b.map V.int) (fun k σ H' => ∃ v3 v4, σ = [some (.ref a), some (.int ((N : Int) + 1)), some (.int 15), v3, v4] ∧ Same H H' ∧ k ≤ (2 * N + 2) * 15 ∧ faultFrom N 0 (bOf b) = faultFrom N k ((bOf b).drop k))
    ⟨_, _, rfl, Same.refl _, by omega, rfl⟩ (fun k σ H' _ ⟨_, _, _, s, _⟩ => s.seq hq) ?_ ?_
  · rintro k x σ H' T hx ⟨v3, v4, rfl, s, hk, hf⟩ hT
    obtain ⟨n, hn, rfl⟩ : ∃ n : Int, b[k]? = some n ∧ V.int n = x := by
      rw [List.getElem?_map] at hx
      exact Option.map_eq_some_iff.mp hx
    have hkl : k < b.length := (List.getElem?_eq_some_iff.mp hn).1
    have hbn := hb.byt n (List.mem_of_getElem? hn)
    have hlen := hb.len
    have sT : Same H' (upd H' T (.tup [.int (k : Nat), .int n])) := same_up hT
    rw [drop_at (byte_at hn)] at hf
    walk_at "go"
    have hnok : gOk N k (UInt8.ofNat n.toNat) = false → faultFrom N 0 (bOf b) = some k := fun h => by
      rw [hf]
      show (if gOk N k _ = true then _ else some k) = _
      rw [h, if_neg (by decide)]
    walk_at "if"
    · rename_i z
      have ez : k = (2 * N + 2) * 15 := by omega
      rw [if_pos rfl]
      walk_at "go"
      refine q1 k (hnok ?_) _ (s.trans sT)
      unfold gOk
      have e1 := pos_div (N := N) (L := 15) (k := 0) (by omega)
      rw [Nat.add_zero] at e1
      rw [ez, e1]
      rfl
    rename_i z
    walk_at "go"
    refine ⟨k, N, rfl, hn7, by omega, fun H1 l1 s1 e1 _ => ?_⟩
    walk_at "go"
    refine ⟨l1, _, rfl, .inr e1, rfl, flatZ _, ?_⟩
    rw [if_pos rfl, inZ, ok_signs N k hbn.1 hbn.2]
    refine ⟨_, rfl, ?_⟩
    have hlt : k / (2 * N + 2) < 15 := by
      rw [Nat.div_lt_iff_lt_mul (by omega), Nat.mul_comm]
      omega
    have hg : gOk N k (UInt8.ofNat n.toNat) = okAt N k (UInt8.ofNat n.toNat) := by
      unfold gOk
      rw [decide_eq_true hlt, Bool.true_and]
    cases hok : okAt N k (UInt8.ofNat n.toNat) with
    | false =>
      rw [Bool.not_false, if_pos rfl]
      walk_at "go"
      exact q1 k (hnok (by rw [hg, hok])) _ ((s.trans sT).trans s1)
    | true =>
      rw [Bool.not_true, if_neg (by decide)]
      walk_at "go"
      refine ⟨_, _, rfl, (s.trans sT).trans s1, by omega, ?_⟩
      rw [hf]
      show (if gOk N k _ = true then _ else some k) = _
      rw [hg, hok, if_pos rfl]
  · rintro σ H' ⟨v3, v4, rfl, s, hk, hf⟩
    rw [List.length_map] at hf
    have hd : (bOf b).drop b.length = [] := by rw [← bOf_len]; exact List.drop_length
    rw [hd] at hf
    have hq' : SqL K H' a (b.map V.int) := s.seq hq
    walk_at "go"
    have e0 : 2 * ((N : Int) + 1) = ((2 * N + 2 : Nat) : Int) := by omega
    have e1 : (b.length : Int) / (2 * ((N : Int) + 1)) = ((b.length / (2 * N + 2) : Nat) : Int) := by rw [e0, Int.natCast_ediv]
    have e2 : (b.length : Int) % (2 * ((N : Int) + 1)) = ((b.length % (2 * N + 2) : Nat) : Int) := by rw [e0, Int.natCast_emod]
    have hlen := hb.len
    rw [e2]
    have hend : faultFrom N b.length [] = if 0 < b.length % (2 * N + 2) ∨ b.length / (2 * N + 2) % 2 = 0 then some b.length else none := rfl
    rw [hend] at hf
    walk_at "if"
    · rename_i z
      rw [if_pos (.inl (by omega))] at hf
      rw [if_pos rfl]
      walk_at "go"
      exact q1 _ hf _ s
    rename_i z
    walk_at "go"
    rw [e1]
    walk_at "if"
    · rename_i z2
      rw [if_pos (.inr (by omega))] at hf
      walk_at "go"
      exact q1 _ hf _ s
    · rename_i z2
      rw [if_neg (by omega)] at hf
      walk_at "go"
      exact q0 hf _ s
theorem up_signs (N k : Nat) : decide (signsAt N k = [120, 124, 45]) = upAt N k := by
  unfold signsAt upAt
  generalize k % (2 * N + 2) = c
  generalize k / (2 * N + 2) = l
  by_cases h1 : c = 2 * N + 1
  · rw [if_pos h1, decide_eq_false (by decide), decide_eq_false (by omega)]
  · rw [if_neg h1]
    by_cases h2 : l % 2 = 0
    · rw [if_pos h2]
      by_cases h3 : c % 2 = 0
      · rw [if_pos h3, decide_eq_false (by decide), decide_eq_false (by omega)]
      · rw [if_neg h3, decide_eq_true rfl, decide_eq_true (by omega)]
    · rw [if_neg h2]
      by_cases h3 : c % 2 = 0
      · rw [if_pos h3, decide_eq_false (by decide), decide_eq_false (by omega)]
      · rw [if_neg h3, decide_eq_false (by decide), decide_eq_false (by omega)]
theorem lev_signs (N k : Nat) : decide (signsAt N k = [120, 45, 124]) = levAt N k := by
  unfold signsAt levAt
  generalize k % (2 * N + 2) = c
  generalize k / (2 * N + 2) = l
  by_cases h1 : c = 2 * N + 1
  · rw [if_pos h1, decide_eq_false (by decide), decide_eq_false (by omega)]
  · rw [if_neg h1]
    by_cases h2 : l % 2 = 0
    · rw [if_pos h2]
      by_cases h3 : c % 2 = 0
      · rw [if_pos h3, decide_eq_false (by decide), decide_eq_false (by omega)]
      · rw [if_neg h3, decide_eq_false (by decide), decide_eq_false (by omega)]
    · rw [if_neg h2]
      by_cases h3 : c % 2 = 0
      · rw [if_pos h3, decide_eq_true rfl, decide_eq_true (by omega)]
      · rw [if_neg h3, decide_eq_false (by decide), decide_eq_false (by omega)]
theorem up_ix {n : Int} (h : ([120, 124, 45] : List Int).contains n = true) : ∃ j : Nat, Plait.stateAt true (UInt8.ofNat n.toNat) = some j ∧ ((j = 0 ∧ (120 : Int) = n) ∨ (j = 1 ∧ (120 : Int) ≠ n ∧ (124 : Int) = n) ∨ (j = 2 ∧ (120 : Int) ≠ n ∧ (124 : Int) ≠ n ∧ (45 : Int) = n)) := by
  have h' : n = 120 ∨ n = 124 ∨ n = 45 := by
    have := List.contains_iff_mem.mp h
    simpa using this
  rcases h' with rfl | rfl | rfl
  · exact ⟨0, rfl, .inl ⟨rfl, rfl⟩⟩
  · exact ⟨1, rfl, .inr (.inl ⟨rfl, by decide, rfl⟩)⟩
  · exact ⟨2, rfl, .inr (.inr ⟨rfl, by decide, by decide, rfl⟩)⟩
theorem lev_ix {n : Int} (h : ([120, 45, 124] : List Int).contains n = true) : ∃ j : Nat, Plait.stateAt false (UInt8.ofNat n.toNat) = some j ∧ ((j = 0 ∧ (120 : Int) = n) ∨ (j = 1 ∧ (120 : Int) ≠ n ∧ (45 : Int) = n) ∨ (j = 2 ∧ (120 : Int) ≠ n ∧ (45 : Int) ≠ n ∧ (124 : Int) = n)) := by
  have h' : n = 120 ∨ n = 45 ∨ n = 124 := by
    have := List.contains_iff_mem.mp h
    simpa using this
  rcases h' with rfl | rfl | rfl
  · exact ⟨0, rfl, .inl ⟨rfl, rfl⟩⟩
  · exact ⟨1, rfl, .inr (.inl ⟨rfl, by decide, rfl⟩)⟩
  · exact ⟨2, rfl, .inr (.inr ⟨rfl, by decide, by decide, rfl⟩)⟩
theorem sqT_upd {K : PySem.W.Frag} {H : Hp} {l t : Addr} {xs ys : List V} {u : HO} (h : H l = some (.lst xs)) (e : SqT K H t ys) : SqT K (upd H l u) t ys := by
  rcases e with e | e
  · refine .inl ?_
    have ht : t ≠ l := fun z => by
      subst z
      rcases e with e | ⟨o, e⟩
      · rw [h] at e; cases e
      · rw [h] at e; cases e
    rcases e with e | ⟨o, e⟩
    · exact .inl (by rw [upd_ne ht]; exact e)
    · exact .inr ⟨o, by rw [upd_ne ht]; exact e⟩
  · exact .inr e
theorem ofN_snoc (us : List Nat) (j : Nat) : (ofN us).map V.int ++ [V.int (j : Nat)] = (ofN (us ++ [j])).map V.int := by
  simp
theorem rd_read_panel {K : PySem.W.Frag} {vs : List V} {H : Hp} {Q : VK} {E : XK} {a_LEVEL_SIGNS a_MARK a_UPRIGHT_SIGNS : Addr} (h_MARK : ∀ H, SqT K H a_MARK [.int 80, .int 76, .int 80, .int 49]) (h_UPRIGHT_SIGNS : ∀ H, SqT K H a_UPRIGHT_SIGNS [.int 120, .int 124, .int 45]) (h_LEVEL_SIGNS : ∀ H, SqT K H a_LEVEL_SIGNS [.int 120, .int 45, .int 124]) (h : sp_read_panel K vs H Q E) : t_read_panel K a_LEVEL_SIGNS a_MARK a_UPRIGHT_SIGNS { nx := fun _ H' => Q .non H', rt := Q } (start ["t", "wide", "high", "uprights", "levels", "at", "sign", "signs"] vs) H := by
  obtain ⟨a, b, rfl, ⟨hb, hf, q⟩⟩ := h
  show t_read_panel K a_LEVEL_SIGNS a_MARK a_UPRIGHT_SIGNS _ [some (.ref a), none, none, none, none, none, none, none] H
  unfold t_read_panel
  walk_at "go"
  have hn7 := n7 b
  have hq := hb.sq
  have hlen := hb.len
  refine ⟨a, b, rfl, hb, ?_⟩
  walk_at "go"
  rename_i l1 H1 n1 s1 e1 l2 H2 n2 s2 e2
  have eh : ((b.length : Int) / (2 * (((nOf b : Nat) : Int) + 1)) + 1) / 2 = (((b.length / (2 * nOf b + 2) + 1) / 2 : Nat) : Int) := by
    have e0 : 2 * (((nOf b : Nat) : Int) + 1) = ((2 * nOf b + 2 : Nat) : Int) := by omega
    rw [e0, ← Int.natCast_ediv]
    generalize b.length / (2 * nOf b + 2) = z
    omega
  rw [eh]
  generalize (b.length / (2 * nOf b + 2) + 1) / 2 = hv at *
  generalize nOf b = N at *
  have n12 : l2 ≠ l1 := fun z => by rw [z, e1] at n2; cases n2
  have n2' : H l2 = none := by
    cases h : H l2 with
    | none => rfl
    | some o => rw [s1 _ _ h] at n2; cases n2
  refine R_itE ((s1.trans s2).seq hq) ?_
  refine loop_enum (xs := b.map V.int) (fun k σ H' => ∃ v5 v6 v7 us vs, σ = [some (.ref a), some (.int ((N : Int) + 1)), some (.int (hv : Nat)), some (.ref l1), some (.ref l2), v5, v6, v7] ∧ Same H H' ∧ H' l1 = some (.lst ((ofN us).map V.int)) ∧ H' l2 = some (.lst ((ofN vs).map V.int)) ∧ us ++ upsFrom N k ((bOf b).drop k) = upsFrom N 0 (bOf b) ∧ vs ++ levFrom N k ((bOf b).drop k) = levFrom N 0 (bOf b) ∧ faultFrom N k ((bOf b).drop k) = none ∧ us.length ≤ k ∧ vs.length ≤ k)
    ⟨_, _, _, [], [], rfl, s1.trans s2, s2 _ _ e1, e2, rfl, rfl, hf, Nat.le_refl _, Nat.le_refl _⟩ (fun k σ H' _ ⟨_, _, _, _, _, _, s, _⟩ => s.seq hq) ?_ ?_
  · rintro k x σ H' T hx ⟨v5, v6, v7, us, vs, rfl, s, el1, el2, hu, hw, hg, lu, lv⟩ hT
    obtain ⟨n, hn, rfl⟩ : ∃ n : Int, b[k]? = some n ∧ V.int n = x := by
      rw [List.getElem?_map] at hx
      exact Option.map_eq_some_iff.mp hx
    have hkl : k < b.length := (List.getElem?_eq_some_iff.mp hn).1
    have hbn := hb.byt n (List.mem_of_getElem? hn)
    have sT : Same H' (upd H' T (.tup [.int (k : Nat), .int n])) := same_up hT
    rw [drop_at (byte_at hn)] at hu hw hg
    have hok : gOk N k (UInt8.ofNat n.toNat) = true := by
      cases h : gOk N k (UInt8.ofNat n.toNat) with
      | true => rfl
      | false =>
        have : faultFrom N k (UInt8.ofNat n.toNat :: List.drop (k + 1) (bOf b)) = some k := by
          show (if gOk N k _ = true then _ else some k) = _
          rw [h, if_neg (by decide)]
        rw [this] at hg
        cases hg
    have hg' : faultFrom N (k + 1) ((bOf b).drop (k + 1)) = none := by
      rw [← hg]
      show _ = (if gOk N k _ = true then _ else some k)
      rw [hok, if_pos rfl]
    have hoa : okAt N k (UInt8.ofNat n.toNat) = true := by
      unfold gOk at hok
      exact (Bool.and_eq_true_iff.mp hok).2
    rw [← ok_signs N k hbn.1 hbn.2] at hoa
    have hu' : us ++ ((if upAt N k = true then [(Plait.stateAt true (UInt8.ofNat n.toNat)).getD 0] else []) ++ upsFrom N (k + 1) ((bOf b).drop (k + 1))) = upsFrom N 0 (bOf b) := by
      rw [← hu]
      congr 1
      show _ = (if upAt N k = true then _ else _)
      cases upAt N k <;> rfl
    have hw' : vs ++ ((if levAt N k = true then [(Plait.stateAt false (UInt8.ofNat n.toNat)).getD 0] else []) ++ levFrom N (k + 1) ((bOf b).drop (k + 1))) = levFrom N 0 (bOf b) := by
      rw [← hw]
      congr 1
      show _ = (if levAt N k = true then _ else _)
      cases levAt N k <;> rfl
    walk_at "go"
    refine ⟨k, N, rfl, hn7, by omega, fun H3 l3 s3 e3 h3 => ?_⟩
    walk_at "go"
    refine R_eqT (ms := [120, 124, 45]) e3 (h_UPRIGHT_SIGNS _) ?_
    have s03 := (s.trans sT).trans s3
    have el1' := s3 _ _ (sT _ _ el1)
    have el2' := s3 _ _ (sT _ _ el2)
    rw [up_signs]
    walk_at "go"
    cases hup : upAt N k with
    | true =>
      have hsg : signsAt N k = [120, 124, 45] := by
        have := up_signs N k
        rw [hup] at this
        exact of_decide_eq_true this
      have hlv : levAt N k = false := by
        rw [← lev_signs, hsg]
        rfl
      rw [hup, if_pos rfl, List.singleton_append] at hu'
      rw [hlv, if_neg (by decide), List.nil_append] at hw'
      rw [hsg] at hoa e3 h3
      obtain ⟨j, hj, hjj⟩ := up_ix hoa
      rw [hj] at hu'
      rw [if_pos rfl]
      walk_at "go"
      refine ⟨ty_list (SqL.of el1'), ?_⟩
      walk_at "go"
      refine ⟨ty_tuple (h3 rfl), ?_⟩
      walk_at "go"
      refine ⟨l3, 120, 124, 45, n, j, rfl, rfl, e3, hjj, ?_⟩
      walk_at "go"
      refine R_append el1' (by rw [sizeLine_eq, List.length_map, List.length_map]; omega) ?_
      walk_at "go"
      refine R_eqT (ns := [120, 124, 45]) (ms := [120, 45, 124]) ?_ (h_LEVEL_SIGNS _) ?_
      · exact sqT_upd el1' e3
      rw [decide_eq_false (by decide)]
      walk_at "go"
      refine ⟨_, _, _, us ++ [j], vs, rfl, same_set s03 n1, ?_, ?_, ?_, hw', hg', ?_, ?_⟩
      · rw [upd_same, ofN_snoc]
      · rw [upd_ne n12]; exact el2'
      · rw [List.append_assoc]; exact hu'
      · rw [List.length_append]; show _ + 1 ≤ _; omega
      · omega
    | false =>
      rw [hup, if_neg (by decide), List.nil_append] at hu'
      rw [if_neg (by decide)]
      walk_at "go"
      refine R_eqT (ms := [120, 45, 124]) e3 (h_LEVEL_SIGNS _) ?_
      rw [lev_signs]
      walk_at "go"
      cases hlv : levAt N k with
      | true =>
        have hsg : signsAt N k = [120, 45, 124] := by
          have := lev_signs N k
          rw [hlv] at this
          exact of_decide_eq_true this
        rw [hlv, if_pos rfl, List.singleton_append] at hw'
        rw [hsg] at hoa e3 h3
        obtain ⟨j, hj, hjj⟩ := lev_ix hoa
        rw [hj] at hw'
        rw [if_pos rfl]
        walk_at "go"
        refine ⟨ty_list (SqL.of el2'), ?_⟩
        walk_at "go"
        refine ⟨ty_tuple (h3 rfl), ?_⟩
        walk_at "go"
        refine ⟨l3, 120, 45, 124, n, j, rfl, rfl, e3, hjj, ?_⟩
        walk_at "go"
        refine R_append el2' (by rw [sizeLine_eq, List.length_map, List.length_map]; omega) ?_
        walk_at "go"
        refine ⟨_, _, _, us, vs ++ [j], rfl, same_set s03 n2', ?_, ?_, hu', ?_, hg', ?_, ?_⟩
        · rw [upd_ne n12.symm]; exact el1'
        · rw [upd_same, ofN_snoc]
        · rw [List.append_assoc]; exact hw'
        · omega
        · rw [List.length_append]; show _ + 1 ≤ _; omega
      | false =>
        rw [hlv, if_neg (by decide), List.nil_append] at hw'
        rw [if_neg (by decide)]
        walk_at "go"
        exact ⟨_, _, _, us, vs, rfl, s03, el1', el2', hu', hw', hg', by omega, by omega⟩
  · rintro σ H' ⟨v5, v6, v7, us, vs, rfl, s, el1, el2, hu, hw, hg, lu, lv⟩
    rw [List.length_map] at hu hw lu lv
    have hd : (bOf b).drop b.length = [] := by rw [← bOf_len]; exact List.drop_length
    rw [hd] at hu hw
    have hu' : us = upsFrom N 0 (bOf b) := by rw [← hu]; exact (List.append_nil _).symm
    have hw' : vs = levFrom N 0 (bOf b) := by rw [← hw]; exact (List.append_nil _).symm
    rw [← hu', ← hw'] at q
    walk_at "go"
    refine R_toLstT (h_MARK _) ?_
    walk_at "go"
    rename_i l3 H3 n3 s3 e3 l4 H4 n4 s4 e4
    refine R_cat (s4 _ _ e3) e4 (upto (by simp only [List.length_cons, List.length_nil]; omega)) ?_
    walk_at "go"
    rename_i l5 H5 n5 s5 e5
    refine R_cat e5 (s5 _ _ (s4 _ _ (s3 _ _ el1))) (upto (by simp only [List.length_append, List.length_cons, List.length_nil, List.length_map]; omega)) ?_
    walk_at "go"
    rename_i l6 H6 n6 s6 e6
    refine R_cat e6 (s6 _ _ (s5 _ _ (s4 _ _ (s3 _ _ el2)))) (upto (by simp only [List.length_append, List.length_cons, List.length_nil, List.length_map]; omega)) ?_
    walk_at "go"
    rename_i l7 H7 n7' s7 e7
    have sa := (((s.trans s3).trans s4).trans s5).trans s6
    refine q _ _ (sa.trans s7) ?_ ?_
    · cases c : H l7 with
      | none => rfl
      | some o => rw [sa _ _ c] at n7'; cases n7'
    · rw [e7]
      simp only [List.map_append]
      rfl
theorem fault_len {N : Nat} : ∀ {t : Plait.Bytes} {p : Nat}, p ≤ (2 * N + 2) * 15 → faultFrom N p t = none → p + t.length ≤ (2 * N + 2) * 15
  | [], p, hp, _ => hp
  | c :: r, p, hp, h => by
    have h' : (if gOk N p c = true then faultFrom N (p + 1) r else some p) = none := h
    cases hg : gOk N p c with
    | false => rw [hg, if_neg (by decide)] at h'; cases h'
    | true =>
      rw [hg, if_pos rfl] at h'
      unfold gOk at hg
      have hl := of_decide_eq_true (Bool.and_eq_true_iff.mp hg).1
      rw [Nat.div_lt_iff_lt_mul (by omega), Nat.mul_comm] at hl
      have := fault_len (p := p + 1) (by omega) h'
      rw [List.length_cons]
      omega
theorem ups_len {N : Nat} : ∀ {t : Plait.Bytes} {p : Nat}, (upsFrom N p t).length ≤ t.length
  | [], _ => Nat.le_refl _
  | c :: r, p => by
    have := ups_len (N := N) (t := r) (p := p + 1)
    unfold upsFrom
    split
    · rw [List.length_cons, List.length_cons]; omega
    · rw [List.length_cons]; omega
theorem lev_len {N : Nat} : ∀ {t : Plait.Bytes} {p : Nat}, (levFrom N p t).length ≤ t.length
  | [], _ => Nat.le_refl _
  | c :: r, p => by
    have := lev_len (N := N) (t := r) (p := p + 1)
    unfold levFrom
    split
    · rw [List.length_cons, List.length_cons]; omega
    · rw [List.length_cons]; omega
theorem st_le (u : Bool) (c : UInt8) : (Plait.stateAt u c).getD 0 ≤ 2 := by
  unfold Plait.stateAt
  split
  · exact Nat.zero_le _
  · split
    · cases u <;> decide
    · split
      · cases u <;> decide
      · exact Nat.zero_le _
theorem ups_le {N : Nat} : ∀ {t : Plait.Bytes} {p : Nat}, ∀ z ∈ upsFrom N p t, z ≤ 2
  | [], _ => fun _ h => by cases h
  | c :: r, p => fun z h => by
    unfold upsFrom at h
    split at h
    · rcases List.mem_cons.mp h with rfl | h
      · exact st_le _ _
      · exact ups_le _ h
    · exact ups_le _ h
theorem lev_le2 {N : Nat} : ∀ {t : Plait.Bytes} {p : Nat}, ∀ z ∈ levFrom N p t, z ≤ 2
  | [], _ => fun _ h => by cases h
  | c :: r, p => fun z h => by
    unfold levFrom at h
    split at h
    · rcases List.mem_cons.mp h with rfl | h
      · exact st_le _ _
      · exact lev_le2 _ h
    · exact lev_le2 _ h
theorem back_bytes {l : List Nat} (h : ∀ z ∈ l, z < 256) : bi (l.map UInt8.ofNat) = ofN l := by
  show (l.map UInt8.ofNat).map _ = _
  rw [List.map_map]
  refine List.map_congr_left fun z hz => ?_
  show (((UInt8.ofNat z).toNat : Nat) : Int) = (z : Int)
  rw [UInt8.toNat_ofNat', Nat.mod_eq_of_lt (h z hz)]
theorem rd_read {K : PySem.W.Frag} {vs : List V} {H : Hp} {Q : VK} {E : XK} (h : sp_read K vs H Q E) : t_read K { nx := fun _ H' => Q .non H', rt := Q } (start ["t", "fault"] vs) H := by
  obtain ⟨a, b, rfl, ⟨hb, q⟩⟩ := h
  show t_read K _ [some (.ref a), none] H
  unfold t_read
  walk_at "go"
  have hq := hb.sq
  have hn7 := n7 b
  rw [f_read hb.byt] at q
  refine ⟨a, b, rfl, hq, ?_⟩
  walk_at "go"
  walk_at "if"
  · rename_i c
    rw [if_pos c] at q
    walk_at "go"
    exact ans q (by assumption) rfl
  rename_i c
  rw [if_neg c] at q
  have RI := read_is (bOf b)
  walk_at "go"
  refine ⟨a, b, rfl, hb, fun hf H1 s1 => ?_, fun p hf H1 s1 => ?_⟩
  · walk_at "go"
    rw [if_neg (by simp)]
    walk_at "go"
    refine ⟨a, b, rfl, hb.same s1, hf, fun H2 l2 s2 n2 e2 => ?_⟩
    walk_at "go"
    have fl := fault_len (p := 0) (Nat.zero_le _) hf
    rw [Nat.zero_add, bOf_len] at fl
    have ul := ups_len (N := nOf b) (t := bOf b) (p := 0)
    have ll := lev_len (N := nOf b) (t := bOf b) (p := 0)
    rw [bOf_len] at ul ll
    refine ⟨l2, _, rfl, e2, ?_, fun H4 l4 s4 _ e4 => ?_⟩
    · simp only [List.length_append, List.length_cons, List.length_nil, List.length_map]
      omega
    cases hr : Plait.readDrawing (bOf b) with
    | error p =>
      rw [hr] at RI
      have RI' : faultFrom (nOf b) 0 (bOf b) = some p := RI
      rw [hf] at RI'
      cases RI'
    | ok D =>
      rw [hr] at RI q
      obtain ⟨_, RI2⟩ := RI
      have q' : Ans Q (told (Plait.gives D.bytes)) := q
      refine ans q' e4 ?_
      rw [told_gives]
      have eb : D.bytes.map (fun (c : UInt8) => (c.toNat : Int)) = [80, 76, 80, 49] ++ [((nOf b : Nat) : Int) + 1, (((b.length / (2 * nOf b + 2) + 1) / 2 : Nat) : Int)] ++ ofN (upsFrom (nOf b) 0 (bOf b)) ++ ofN (levFrom (nOf b) 0 (bOf b)) := by
        rw [RI2]
        have hh : (b.length / (2 * nOf b + 2) + 1) / 2 < 256 := by
          have : b.length / (2 * nOf b + 2) ≤ 15 := by
            rw [Nat.div_le_iff_le_mul_add_pred (by omega)]
            omega
          omega
        have e1 : bi ((upsFrom (nOf b) 0 (bOf b) ++ levFrom (nOf b) 0 (bOf b)).map UInt8.ofNat) = ofN (upsFrom (nOf b) 0 (bOf b) ++ levFrom (nOf b) 0 (bOf b)) := back_bytes fun z hz => by
          rcases List.mem_append.mp hz with w | w
          · have := ups_le _ w; omega
          · have := lev_le2 _ w; omega
        have e2 : bi ([nOf b + 1, (b.length / (2 * nOf b + 2) + 1) / 2].map UInt8.ofNat) = ofN [nOf b + 1, (b.length / (2 * nOf b + 2) + 1) / 2] := back_bytes fun z hz => by
          simp only [List.mem_cons, List.not_mem_nil, or_false] at hz
          omega
        show bi (Plait.MARK ++ ([besideN (bOf b) + 1, ((bOf b).length / (2 * besideN (bOf b) + 2) + 1) / 2].map UInt8.ofNat ++ (upsFrom (nOf b) 0 (bOf b) ++ levFrom (nOf b) 0 (bOf b)).map UInt8.ofNat)) = _
        rw [bOf_len]
        have ea : ∀ x y : List UInt8, bi (x ++ y) = bi x ++ bi y := fun x y => List.map_append
        rw [ea, ea, e1, e2]
        simp only [List.map_append, List.append_assoc]
        rfl
      rw [eb]
  · walk_at "go"
    rw [if_pos (by simp)]
    walk_at "go"
    cases hr : Plait.readDrawing (bOf b) with
    | error p' =>
      rw [hr] at RI q
      have RI' : faultFrom (nOf b) 0 (bOf b) = some p' := RI
      rw [hf] at RI'
      cases RI'
      have q' : Ans Q [-6, (p : Int)] := q
      exact ans q' (by assumption) rfl
    | ok D =>
      rw [hr] at RI
      have RI' : faultFrom (nOf b) 0 (bOf b) = none := RI.1
      rw [hf] at RI'
      cases RI'
end Il

set_option Elab.async false
set_option linter.all false
set_option maxRecDepth 100000
set_option maxHeartbeats 2000000
namespace Lw
open PySem PySem.Spec PyProof.Rows L2 L3 Il
def top (i : Nat) : Stmt := PySem.Challenge.pw_interlace_s08_read.main.body.getD i (.Pass ⟨0, 0, 0, 0⟩)
abbrev s_measure_wide : Stmt := top 8
abbrev s_list_signs : Stmt := top 9
abbrev s_find_drawing_fault : Stmt := top 10
abbrev s_read_panel : Stmt := top 11
abbrev s_is_too_long : Stmt := top 16
abbrev s_tell_list : Stmt := top 18
abbrev s_read : Stmt := top 19
structure Txt (K : PySem.W.Frag) (mg : Str → Option Value) (a_MARK : Addr) (a_UPRIGHT_SIGNS : Addr) (a_LEVEL_SIGNS : Addr) : Prop where
  m_MARK : mg "MARK" = some (.ref a_MARK)
  m_MOST_SQUARES : ∃ t, mg "MOST_SQUARES" = some (.int 8 t)
  m_LINE_END : ∃ t, mg "LINE_END" = some (.int 10 t)
  m_BLANK : ∃ t, mg "BLANK" = some (.int 32 t)
  m_SQUARE : ∃ t, mg "SQUARE" = some (.int 111 t)
  m_UPRIGHT_SIGNS : mg "UPRIGHT_SIGNS" = some (.ref a_UPRIGHT_SIGNS)
  m_LEVEL_SIGNS : mg "LEVEL_SIGNS" = some (.ref a_LEVEL_SIGNS)
  m_MOST_NUMBERS : ∃ t, mg "MOST_NUMBERS" = some (.int 1024 t)
  m_TOO_LONG : ∃ t, mg "TOO_LONG" = some (.int (-2) t)
  m_NOT_RIGHT : ∃ t, mg "NOT_RIGHT" = some (.int (-6) t)
  q_MARK : ∀ H, SqT K H a_MARK [.int 80, .int 76, .int 80, .int 49]
  q_UPRIGHT_SIGNS : ∀ H, SqT K H a_UPRIGHT_SIGNS [.int 120, .int 124, .int 45]
  k_UPRIGHT_SIGNS : TupK K a_UPRIGHT_SIGNS
  q_LEVEL_SIGNS : ∀ H, SqT K H a_LEVEL_SIGNS [.int 120, .int 45, .int 124]
  k_LEVEL_SIGNS : TupK K a_LEVEL_SIGNS
  n_enumerate : mg "enumerate" = none
  n_len : mg "len" = none
  n_list : mg "list" = none
  n_min : mg "min" = none
section
variable {P : Program} {w : World} {K : PySem.W.Frag} {mg : Str → Option Value} {base : Heap} {a_MARK : Addr} {a_UPRIGHT_SIGNS : Addr} {a_LEVEL_SIGNS : Addr}
theorem sc_measure_wide : FnScope ["t", "length"] ["t"] (defScope s_measure_wide) := ⟨rfl, rfl, rfl, by decide +kernel, rfl, by decide +kernel, by decide +kernel⟩
theorem dv_measure_wide {f : Addr} {cdv : Value} {A : Around} {outer : List Env} {s : Shared} {H : Hp} {E : XK} (T : Txt K mg a_MARK a_UPRIGHT_SIGNS a_LEVEL_SIGNS) (hr : Room 0 (A.deeper (envOfC "measure_wide" (defScope s_measure_wide) s.heap.objs.size f cdv))) :
    PSs (cxOf CX0 P w K mg base ["t", "length"] "measure_wide" (defScope s_measure_wide) f cdv A outer s H E).nox (defBody s_measure_wide) (t_measure_wide K) :=
  (pss_cons (ps_set (i := 1) sc_measure_wide.nd rfl (Or.inl rfl) (pe_ifExp (pt_cmpR op_in_seq (pe_gint T.m_LINE_END) (pv 0) rfl) (pe_bm PySem.F.plainAttrs_list PySem.F.slot_list_index PySem.F.type_list_index mt_index (pv 0) (pa_cons (pe_gint T.m_LINE_END) pa_nil)) (pe_callB cr_len rfl T.n_len PySem.boot_len (pa_cons (pv 0) pa_nil))))
    (pss_one (ps_ret (pe_callB (cr_min2 rfl) rfl T.n_min (by decide +kernel) (pa_cons (pe_op op_add (pe_op op_fdiv (pv 1) pe_int) pe_int) (pa_cons (pe_gint T.m_MOST_SQUARES) pa_nil))))))
theorem cal_measure_wide {f : Addr} {fd : FuncData} (F : Fun K "measure_wide" "measure_wide" s_measure_wide f fd) (T : Txt K mg a_MARK a_UPRIGHT_SIGNS a_LEVEL_SIGNS) (hm : mg "measure_wide" = some (.ref f)) : Cal P w K mg base "measure_wide" 1 ["t"] (sp_measure_wide K) := by
  have G : FnOk P w K mg base CX0 1 f fd ["t"] (sp_measure_wide K) := F.ok sc_measure_wide (fun vs H Q E h => ln_measure_wide h) (fun cdv A outer s H vs Q E hr h => ⟨_, dv_measure_wide T hr, rd_measure_wide h⟩)
  exact ⟨f, fd, G, hm, F.kp, F.binds fun _ _ _ _ _ _ us hl => match us, hl with | [_], _ => rfl⟩
theorem sc_list_signs : FnScope ["at", "wide", "line", "column"] ["at", "wide"] (defScope s_list_signs) := ⟨rfl, rfl, rfl, by decide +kernel, rfl, by decide +kernel, by decide +kernel⟩
theorem dv_list_signs {f : Addr} {cdv : Value} {A : Around} {outer : List Env} {s : Shared} {H : Hp} {E : XK} (T : Txt K mg a_MARK a_UPRIGHT_SIGNS a_LEVEL_SIGNS) (hr : Room 0 (A.deeper (envOfC "list_signs" (defScope s_list_signs) s.heap.objs.size f cdv))) :
    PSs (cxOf CX0 P w K mg base ["at", "wide", "line", "column"] "list_signs" (defScope s_list_signs) f cdv A outer s H E).nox (defBody s_list_signs) (t_list_signs K a_LEVEL_SIGNS a_UPRIGHT_SIGNS) :=
  (pss_cons (ps_set (i := 2) sc_list_signs.nd rfl (Or.inl rfl) (pe_op op_fdiv (pv 0) (pe_op op_mul pe_int (pv 1))))
    (pss_cons (ps_set (i := 3) sc_list_signs.nd rfl (Or.inl rfl) (pe_op op_mod (pv 0) (pe_op op_mul pe_int (pv 1))))
    (pss_cons (ps_if (pt_cmpR op_eq (pv 3) (pe_op op_sub (pe_op op_mul pe_int (pv 1)) pe_int) (nomark _)) (pss_one (ps_ret (pe_tup (pa_cons (pe_gint T.m_LINE_END) pa_nil)))) pss_nil)
    (pss_cons (ps_if (pt_cmpR op_eq (pe_op op_mod (pv 2) pe_int) pe_int (nomark _)) (pss_one (ps_ret (pe_ifExp (pt_cmpR op_eq (pe_op op_mod (pv 3) pe_int) pe_int (nomark _)) (pe_tup (pa_cons (pe_gint T.m_SQUARE) pa_nil)) (pe_gref T.m_UPRIGHT_SIGNS)))) pss_nil)
    (pss_one (ps_ret (pe_ifExp (pt_cmpR op_eq (pe_op op_mod (pv 3) pe_int) pe_int (nomark _)) (pe_gref T.m_LEVEL_SIGNS) (pe_tup (pa_cons (pe_gint T.m_BLANK) pa_nil)))))))))
theorem cal_list_signs {f : Addr} {fd : FuncData} (F : Fun K "list_signs" "list_signs" s_list_signs f fd) (T : Txt K mg a_MARK a_UPRIGHT_SIGNS a_LEVEL_SIGNS) (hm : mg "list_signs" = some (.ref f)) : Cal P w K mg base "list_signs" 1 ["at", "wide"] (sp_list_signs K) := by
  have G : FnOk P w K mg base CX0 1 f fd ["at", "wide"] (sp_list_signs K) := F.ok sc_list_signs (fun vs H Q E h => ln_list_signs h) (fun cdv A outer s H vs Q E hr h => ⟨_, dv_list_signs T hr, rd_list_signs T.q_UPRIGHT_SIGNS T.q_LEVEL_SIGNS T.k_UPRIGHT_SIGNS T.k_LEVEL_SIGNS h⟩)
  exact ⟨f, fd, G, hm, F.kp, F.binds fun _ _ _ _ _ _ us hl => match us, hl with | [_, _], _ => rfl⟩
theorem sc_find_drawing_fault : FnScope ["t", "wide", "most_lines", "at", "sign"] ["t"] (defScope s_find_drawing_fault) := ⟨rfl, rfl, rfl, by decide +kernel, rfl, by decide +kernel, by decide +kernel⟩
theorem dv_find_drawing_fault {f : Addr} {cdv : Value} {A : Around} {outer : List Env} {s : Shared} {H : Hp} {E : XK} (T : Txt K mg a_MARK a_UPRIGHT_SIGNS a_LEVEL_SIGNS) (C_measure_wide : Cal P w K mg base "measure_wide" 1 ["t"] (sp_measure_wide K)) (C_list_signs : Cal P w K mg base "list_signs" 1 ["at", "wide"] (sp_list_signs K)) (hr : Room 1 (A.deeper (envOfC "find_drawing_fault" (defScope s_find_drawing_fault) s.heap.objs.size f cdv))) :
    PSs (cxOf CX0 P w K mg base ["t", "wide", "most_lines", "at", "sign"] "find_drawing_fault" (defScope s_find_drawing_fault) f cdv A outer s H E).nox (defBody s_find_drawing_fault) (t_find_drawing_fault K) :=
  (pss_cons (ps_set (i := 1) sc_find_drawing_fault.nd rfl (Or.inl rfl) (pe_own C_measure_wide (hr.mono (by decide)) (pa_cons (pv 0) pa_nil)))
    (pss_cons (ps_set (i := 2) sc_find_drawing_fault.nd rfl (Or.inl rfl) (pe_op op_sub (pe_op op_mul pe_int (pe_gint T.m_MOST_SQUARES)) pe_int))
    (pss_cons (ps_for PassesOwn.never rfl (pi_enum rfl T.n_enumerate (pa_cons (pv 0) pa_nil)) (pg_tup rfl (pgs_cons (pg_name (i := 3) sc_find_drawing_fault.nd rfl (Or.inl rfl)) (pgs_cons (pg_name (i := 4) sc_find_drawing_fault.nd rfl (Or.inl rfl)) pgs_nil))) (pss_one (ps_if (PW.pt (pw_or (pt_cmpR op_eq (pv 3) (pe_op op_mul (pe_op op_mul pe_int (pv 1)) (pv 2)) (nomark _)) (pw_or1 (pt_cmpR op_notIn_seq (pv 4) (pe_own C_list_signs (hr.mono (by decide)) (pa_cons (pv 3) (pa_cons (pv 1) pa_nil))) rfl)))) (pss_one (ps_ret (pv 3))) pss_nil)))
    (pss_cons (ps_if (PW.pt (pw_or (pt_cmpR op_gt (pe_op op_mod (pe_callB cr_len rfl T.n_len PySem.boot_len (pa_cons (pv 0) pa_nil)) (pe_op op_mul pe_int (pv 1))) pe_int (nomark _)) (pw_or1 (pt_cmpR op_eq (pe_op op_mod (pe_op op_fdiv (pe_callB cr_len rfl T.n_len PySem.boot_len (pa_cons (pv 0) pa_nil)) (pe_op op_mul pe_int (pv 1))) pe_int) pe_int (nomark _))))) (pss_one (ps_ret (pe_callB cr_len rfl T.n_len PySem.boot_len (pa_cons (pv 0) pa_nil)))) pss_nil)
    (pss_one (ps_ret pe_non))))))
theorem cal_find_drawing_fault {f : Addr} {fd : FuncData} (F : Fun K "find_drawing_fault" "find_drawing_fault" s_find_drawing_fault f fd) (T : Txt K mg a_MARK a_UPRIGHT_SIGNS a_LEVEL_SIGNS) (C_measure_wide : Cal P w K mg base "measure_wide" 1 ["t"] (sp_measure_wide K)) (C_list_signs : Cal P w K mg base "list_signs" 1 ["at", "wide"] (sp_list_signs K)) (hm : mg "find_drawing_fault" = some (.ref f)) : Cal P w K mg base "find_drawing_fault" 2 ["t"] (sp_find_drawing_fault K) := by
  have G : FnOk P w K mg base CX0 2 f fd ["t"] (sp_find_drawing_fault K) := F.ok sc_find_drawing_fault (fun vs H Q E h => ln_find_drawing_fault h) (fun cdv A outer s H vs Q E hr h => ⟨_, dv_find_drawing_fault T C_measure_wide C_list_signs hr, rd_find_drawing_fault h⟩)
  exact ⟨f, fd, G, hm, F.kp, F.binds fun _ _ _ _ _ _ us hl => match us, hl with | [_], _ => rfl⟩
theorem sc_read_panel : FnScope ["t", "wide", "high", "uprights", "levels", "at", "sign", "signs"] ["t"] (defScope s_read_panel) := ⟨rfl, rfl, rfl, by decide +kernel, rfl, by decide +kernel, by decide +kernel⟩
theorem dv_read_panel {f : Addr} {cdv : Value} {A : Around} {outer : List Env} {s : Shared} {H : Hp} {E : XK} (T : Txt K mg a_MARK a_UPRIGHT_SIGNS a_LEVEL_SIGNS) (C_measure_wide : Cal P w K mg base "measure_wide" 1 ["t"] (sp_measure_wide K)) (C_list_signs : Cal P w K mg base "list_signs" 1 ["at", "wide"] (sp_list_signs K)) (hr : Room 1 (A.deeper (envOfC "read_panel" (defScope s_read_panel) s.heap.objs.size f cdv))) :
    PSs (cxOf CX0 P w K mg base ["t", "wide", "high", "uprights", "levels", "at", "sign", "signs"] "read_panel" (defScope s_read_panel) f cdv A outer s H E).nox (defBody s_read_panel) (t_read_panel K a_LEVEL_SIGNS a_MARK a_UPRIGHT_SIGNS) :=
  (pss_cons (ps_set (i := 1) sc_read_panel.nd rfl (Or.inl rfl) (pe_own C_measure_wide (hr.mono (by decide)) (pa_cons (pv 0) pa_nil)))
    (pss_cons (ps_set (i := 2) sc_read_panel.nd rfl (Or.inl rfl) (pe_op op_fdiv (pe_op op_add (pe_op op_fdiv (pe_callB cr_len rfl T.n_len PySem.boot_len (pa_cons (pv 0) pa_nil)) (pe_op op_mul pe_int (pv 1))) pe_int) pe_int))
    (pss_cons (ps_set (i := 3) sc_read_panel.nd rfl (Or.inl rfl) (pe_lst pa_nil))
    (pss_cons (ps_set (i := 4) sc_read_panel.nd rfl (Or.inl rfl) (pe_lst pa_nil))
    (pss_cons (ps_for PassesOwn.never rfl (pi_enum rfl T.n_enumerate (pa_cons (pv 0) pa_nil)) (pg_tup rfl (pgs_cons (pg_name (i := 5) sc_read_panel.nd rfl (Or.inl rfl)) (pgs_cons (pg_name (i := 6) sc_read_panel.nd rfl (Or.inl rfl)) pgs_nil))) (pss_cons (ps_set (i := 7) sc_read_panel.nd rfl (Or.inl rfl) (pe_own C_list_signs (hr.mono (by decide)) (pa_cons (pv 5) (pa_cons (pv 1) pa_nil))))
    (pss_cons (ps_if (pt_cmpR (op_eqD (Room.units hr)) (pv 7) (pe_gref T.m_UPRIGHT_SIGNS) (nomark _)) (pss_one (ps_expr (pe_bm PySem.F.plainAttrs_list PySem.F.slot_list_append PySem.F.type_list_append mt_append (pv 3) (pa_cons (pe_bm PySem.F.plainAttrs_tuple PySem.F.slot_tuple_index PySem.F.type_tuple_index mt_tupIx (pv 7) (pa_cons (pv 6) pa_nil)) pa_nil)))) pss_nil)
    (pss_one (ps_if (pt_cmpR (op_eqD (Room.units hr)) (pv 7) (pe_gref T.m_LEVEL_SIGNS) (nomark _)) (pss_one (ps_expr (pe_bm PySem.F.plainAttrs_list PySem.F.slot_list_append PySem.F.type_list_append mt_append (pv 4) (pa_cons (pe_bm PySem.F.plainAttrs_tuple PySem.F.slot_tuple_index PySem.F.type_tuple_index mt_tupIx (pv 7) (pa_cons (pv 6) pa_nil)) pa_nil)))) pss_nil)))))
    (pss_one (ps_ret (pe_op op_cat (pe_op op_cat (pe_op op_cat (pe_callTy cr_lst rfl T.n_list (by decide +kernel) (pa_cons (pe_gref T.m_MARK) pa_nil)) (pe_lst (pa_cons (pv 1) (pa_cons (pv 2) pa_nil)))) (pv 3)) (pv 4)))))))))
theorem cal_read_panel {f : Addr} {fd : FuncData} (F : Fun K "read_panel" "read_panel" s_read_panel f fd) (T : Txt K mg a_MARK a_UPRIGHT_SIGNS a_LEVEL_SIGNS) (C_measure_wide : Cal P w K mg base "measure_wide" 1 ["t"] (sp_measure_wide K)) (C_list_signs : Cal P w K mg base "list_signs" 1 ["at", "wide"] (sp_list_signs K)) (hm : mg "read_panel" = some (.ref f)) : Cal P w K mg base "read_panel" 2 ["t"] (sp_read_panel K) := by
  have G : FnOk P w K mg base CX0 2 f fd ["t"] (sp_read_panel K) := F.ok sc_read_panel (fun vs H Q E h => ln_read_panel h) (fun cdv A outer s H vs Q E hr h => ⟨_, dv_read_panel T C_measure_wide C_list_signs hr, rd_read_panel T.q_MARK T.q_UPRIGHT_SIGNS T.q_LEVEL_SIGNS h⟩)
  exact ⟨f, fd, G, hm, F.kp, F.binds fun _ _ _ _ _ _ us hl => match us, hl with | [_], _ => rfl⟩
theorem sc_is_too_long : FnScope ["numbers"] ["numbers"] (defScope s_is_too_long) := ⟨rfl, rfl, rfl, by decide +kernel, rfl, by decide +kernel, by decide +kernel⟩
theorem dv_is_too_long {f : Addr} {cdv : Value} {A : Around} {outer : List Env} {s : Shared} {H : Hp} {E : XK} (T : Txt K mg a_MARK a_UPRIGHT_SIGNS a_LEVEL_SIGNS) (hr : Room 0 (A.deeper (envOfC "is_too_long" (defScope s_is_too_long) s.heap.objs.size f cdv))) :
    PSs (cxOf CX0 P w K mg base ["numbers"] "is_too_long" (defScope s_is_too_long) f cdv A outer s H E).nox (defBody s_is_too_long) (t_is_too_long K) :=
  (pss_one (ps_ret (pe_cmpR op_gt (pe_callB cr_len rfl T.n_len PySem.boot_len (pa_cons (pv 0) pa_nil)) (pe_gint T.m_MOST_NUMBERS) (nomark _))))
theorem cal_is_too_long {f : Addr} {fd : FuncData} (F : Fun K "is_too_long" "is_too_long" s_is_too_long f fd) (T : Txt K mg a_MARK a_UPRIGHT_SIGNS a_LEVEL_SIGNS) (hm : mg "is_too_long" = some (.ref f)) : Cal P w K mg base "is_too_long" 1 ["numbers"] (sp_is_too_long K) := by
  have G : FnOk P w K mg base CX0 1 f fd ["numbers"] (sp_is_too_long K) := F.ok sc_is_too_long (fun vs H Q E h => ln_is_too_long h) (fun cdv A outer s H vs Q E hr h => ⟨_, dv_is_too_long T hr, rd_is_too_long h⟩)
  exact ⟨f, fd, G, hm, F.kp, F.binds fun _ _ _ _ _ _ us hl => match us, hl with | [_], _ => rfl⟩
theorem sc_tell_list : FnScope ["numbers"] ["numbers"] (defScope s_tell_list) := ⟨rfl, rfl, rfl, by decide +kernel, rfl, by decide +kernel, by decide +kernel⟩
theorem dv_tell_list {f : Addr} {cdv : Value} {A : Around} {outer : List Env} {s : Shared} {H : Hp} {E : XK} (T : Txt K mg a_MARK a_UPRIGHT_SIGNS a_LEVEL_SIGNS) (hr : Room 0 (A.deeper (envOfC "tell_list" (defScope s_tell_list) s.heap.objs.size f cdv))) :
    PSs (cxOf CX0 P w K mg base ["numbers"] "tell_list" (defScope s_tell_list) f cdv A outer s H E).nox (defBody s_tell_list) (t_tell_list K) :=
  (pss_one (ps_ret (pe_op op_cat (pe_lst (pa_cons (pe_callB cr_len rfl T.n_len PySem.boot_len (pa_cons (pv 0) pa_nil)) pa_nil)) (pv 0))))
theorem cal_tell_list {f : Addr} {fd : FuncData} (F : Fun K "tell_list" "tell_list" s_tell_list f fd) (T : Txt K mg a_MARK a_UPRIGHT_SIGNS a_LEVEL_SIGNS) (hm : mg "tell_list" = some (.ref f)) : Cal P w K mg base "tell_list" 1 ["numbers"] (sp_tell_list K) := by
  have G : FnOk P w K mg base CX0 1 f fd ["numbers"] (sp_tell_list K) := F.ok sc_tell_list (fun vs H Q E h => ln_tell_list h) (fun cdv A outer s H vs Q E hr h => ⟨_, dv_tell_list T hr, rd_tell_list h⟩)
  exact ⟨f, fd, G, hm, F.kp, F.binds fun _ _ _ _ _ _ us hl => match us, hl with | [_], _ => rfl⟩
theorem sc_read : FnScope ["t", "fault"] ["t"] (defScope s_read) := ⟨rfl, rfl, rfl, by decide +kernel, rfl, by decide +kernel, by decide +kernel⟩
theorem dv_read {f : Addr} {cdv : Value} {A : Around} {outer : List Env} {s : Shared} {H : Hp} {E : XK} (T : Txt K mg a_MARK a_UPRIGHT_SIGNS a_LEVEL_SIGNS) (C_find_drawing_fault : Cal P w K mg base "find_drawing_fault" 2 ["t"] (sp_find_drawing_fault K)) (C_read_panel : Cal P w K mg base "read_panel" 2 ["t"] (sp_read_panel K)) (C_is_too_long : Cal P w K mg base "is_too_long" 1 ["numbers"] (sp_is_too_long K)) (C_tell_list : Cal P w K mg base "tell_list" 1 ["numbers"] (sp_tell_list K)) (hr : Room 2 (A.deeper (envOfC "read" (defScope s_read) s.heap.objs.size f cdv))) :
    PSs (cxOf CX0 P w K mg base ["t", "fault"] "read" (defScope s_read) f cdv A outer s H E).nox (defBody s_read) (t_read K) :=
  (pss_cons (ps_if (pt_val (pe_own C_is_too_long (hr.mono (by decide)) (pa_cons (pv 0) pa_nil))) (pss_one (ps_ret (pe_lst (pa_cons (pe_gint T.m_TOO_LONG) pa_nil)))) pss_nil)
    (pss_cons (ps_set (i := 1) sc_read.nd rfl (Or.inl rfl) (pe_own C_find_drawing_fault (hr.mono (by decide)) (pa_cons (pv 0) pa_nil)))
    (pss_cons (ps_if (pt_cmpR op_notN' (pv 1) pe_non (nomark _)) (pss_one (ps_ret (pe_lst (pa_cons (pe_gint T.m_NOT_RIGHT) (pa_cons (pv 1) pa_nil))))) pss_nil)
    (pss_one (ps_ret (pe_own C_tell_list (hr.mono (by decide)) (pa_cons (pe_own C_read_panel (hr.mono (by decide)) (pa_cons (pv 0) pa_nil)) pa_nil)))))))
end
theorem all_mk {P : Program} {w : World} {K : PySem.W.Frag} {h : Heap} {mg : Str → Option Value} {fa : Addr} (X : K.In h) (G : h.Ns mainGlobals mg) (hfa : mg "read" = some (.ref fa)) {a_MARK : Addr} {a_UPRIGHT_SIGNS : Addr} {a_LEVEL_SIGNS : Addr}
    {t_MOST_SQUARES : Tok}
    {t_LINE_END : Tok}
    {t_BLANK : Tok}
    {t_SQUARE : Tok}
    {t_MOST_NUMBERS : Tok}
    {t_TOO_LONG : Tok}
    {t_NOT_RIGHT : Tok}
    {od_MARK : Option Addr} {nn_MARK : Nat} {sl_MARK : Array (Option Value)}
    {t_MARK_0 : Tok}
    {t_MARK_1 : Tok}
    {t_MARK_2 : Tok}
    {t_MARK_3 : Tok}
    {nn_UPRIGHT_SIGNS : Nat} {sl_UPRIGHT_SIGNS : Array (Option Value)}
    {t_UPRIGHT_SIGNS_0 : Tok}
    {t_UPRIGHT_SIGNS_1 : Tok}
    {t_UPRIGHT_SIGNS_2 : Tok}
    {nn_LEVEL_SIGNS : Nat} {sl_LEVEL_SIGNS : Array (Option Value)}
    {t_LEVEL_SIGNS_0 : Tok}
    {t_LEVEL_SIGNS_1 : Tok}
    {t_LEVEL_SIGNS_2 : Tok}
    {f_measure_wide : Addr} {oc_measure_wide kV_measure_wide dc_measure_wide pm_measure_wide cd_measure_wide ct_measure_wide : Value} {od_measure_wide an_measure_wide : Option Addr} {sl_measure_wide : Array (Option Value)}
    {f_list_signs : Addr} {oc_list_signs kV_list_signs dc_list_signs pm_list_signs cd_list_signs ct_list_signs : Value} {od_list_signs an_list_signs : Option Addr} {sl_list_signs : Array (Option Value)}
    {f_find_drawing_fault : Addr} {oc_find_drawing_fault kV_find_drawing_fault dc_find_drawing_fault pm_find_drawing_fault cd_find_drawing_fault ct_find_drawing_fault : Value} {od_find_drawing_fault an_find_drawing_fault : Option Addr} {sl_find_drawing_fault : Array (Option Value)}
    {f_read_panel : Addr} {oc_read_panel kV_read_panel dc_read_panel pm_read_panel cd_read_panel ct_read_panel : Value} {od_read_panel an_read_panel : Option Addr} {sl_read_panel : Array (Option Value)}
    {f_is_too_long : Addr} {oc_is_too_long kV_is_too_long dc_is_too_long pm_is_too_long cd_is_too_long ct_is_too_long : Value} {od_is_too_long an_is_too_long : Option Addr} {sl_is_too_long : Array (Option Value)}
    {f_tell_list : Addr} {oc_tell_list kV_tell_list dc_tell_list pm_tell_list cd_tell_list ct_tell_list : Value} {od_tell_list an_tell_list : Option Addr} {sl_tell_list : Array (Option Value)}
    {f_read : Addr} {oc_read kV_read dc_read pm_read cd_read ct_read : Value} {od_read an_read : Option Addr} {sl_read : Array (Option Value)}
    (x_MARK : PySem.W.nsIn K mainGlobals "MARK" = some (some (.ref a_MARK)))
    (x_MOST_SQUARES : PySem.W.nsIn K mainGlobals "MOST_SQUARES" = some (some (.int 8 t_MOST_SQUARES)))
    (x_LINE_END : PySem.W.nsIn K mainGlobals "LINE_END" = some (some (.int 10 t_LINE_END)))
    (x_BLANK : PySem.W.nsIn K mainGlobals "BLANK" = some (some (.int 32 t_BLANK)))
    (x_SQUARE : PySem.W.nsIn K mainGlobals "SQUARE" = some (some (.int 111 t_SQUARE)))
    (x_UPRIGHT_SIGNS : PySem.W.nsIn K mainGlobals "UPRIGHT_SIGNS" = some (some (.ref a_UPRIGHT_SIGNS)))
    (x_LEVEL_SIGNS : PySem.W.nsIn K mainGlobals "LEVEL_SIGNS" = some (some (.ref a_LEVEL_SIGNS)))
    (x_MOST_NUMBERS : PySem.W.nsIn K mainGlobals "MOST_NUMBERS" = some (some (.int 1024 t_MOST_NUMBERS)))
    (x_TOO_LONG : PySem.W.nsIn K mainGlobals "TOO_LONG" = some (some (.int (-2) t_TOO_LONG)))
    (x_NOT_RIGHT : PySem.W.nsIn K mainGlobals "NOT_RIGHT" = some (some (.int (-6) t_NOT_RIGHT)))
    (y_MARK : K.lookup a_MARK = some ⟨.type "tuple", od_MARK, .seq #[.int 80 t_MARK_0, .int 76 t_MARK_1, .int 80 t_MARK_2, .int 49 t_MARK_3] nn_MARK, sl_MARK⟩)
    (y_UPRIGHT_SIGNS : K.lookup a_UPRIGHT_SIGNS = some ⟨.type "tuple", none, .seq #[.int 120 t_UPRIGHT_SIGNS_0, .int 124 t_UPRIGHT_SIGNS_1, .int 45 t_UPRIGHT_SIGNS_2] nn_UPRIGHT_SIGNS, sl_UPRIGHT_SIGNS⟩)
    (y_LEVEL_SIGNS : K.lookup a_LEVEL_SIGNS = some ⟨.type "tuple", none, .seq #[.int 120 t_LEVEL_SIGNS_0, .int 45 t_LEVEL_SIGNS_1, .int 124 t_LEVEL_SIGNS_2] nn_LEVEL_SIGNS, sl_LEVEL_SIGNS⟩)
    (a_measure_wide : PySem.W.nsIn K mainGlobals "measure_wide" = some (some (.ref f_measure_wide)))
    (l_measure_wide : K.lookup f_measure_wide = some ⟨oc_measure_wide, od_measure_wide, .func (PySem.W.fnOf "measure_wide" "measure_wide" (defArgs s_measure_wide) (defBody s_measure_wide) (defScope s_measure_wide) .none kV_measure_wide dc_measure_wide pm_measure_wide an_measure_wide cd_measure_wide ct_measure_wide), sl_measure_wide⟩)
    (c_measure_wide : PySem.W.codeIn K cd_measure_wide "measure_wide" = true)
    (k_measure_wide : PySem.W.keepIn K (.ref f_measure_wide) = true)
    (a_list_signs : PySem.W.nsIn K mainGlobals "list_signs" = some (some (.ref f_list_signs)))
    (l_list_signs : K.lookup f_list_signs = some ⟨oc_list_signs, od_list_signs, .func (PySem.W.fnOf "list_signs" "list_signs" (defArgs s_list_signs) (defBody s_list_signs) (defScope s_list_signs) .none kV_list_signs dc_list_signs pm_list_signs an_list_signs cd_list_signs ct_list_signs), sl_list_signs⟩)
    (c_list_signs : PySem.W.codeIn K cd_list_signs "list_signs" = true)
    (k_list_signs : PySem.W.keepIn K (.ref f_list_signs) = true)
    (a_find_drawing_fault : PySem.W.nsIn K mainGlobals "find_drawing_fault" = some (some (.ref f_find_drawing_fault)))
    (l_find_drawing_fault : K.lookup f_find_drawing_fault = some ⟨oc_find_drawing_fault, od_find_drawing_fault, .func (PySem.W.fnOf "find_drawing_fault" "find_drawing_fault" (defArgs s_find_drawing_fault) (defBody s_find_drawing_fault) (defScope s_find_drawing_fault) .none kV_find_drawing_fault dc_find_drawing_fault pm_find_drawing_fault an_find_drawing_fault cd_find_drawing_fault ct_find_drawing_fault), sl_find_drawing_fault⟩)
    (c_find_drawing_fault : PySem.W.codeIn K cd_find_drawing_fault "find_drawing_fault" = true)
    (k_find_drawing_fault : PySem.W.keepIn K (.ref f_find_drawing_fault) = true)
    (a_read_panel : PySem.W.nsIn K mainGlobals "read_panel" = some (some (.ref f_read_panel)))
    (l_read_panel : K.lookup f_read_panel = some ⟨oc_read_panel, od_read_panel, .func (PySem.W.fnOf "read_panel" "read_panel" (defArgs s_read_panel) (defBody s_read_panel) (defScope s_read_panel) .none kV_read_panel dc_read_panel pm_read_panel an_read_panel cd_read_panel ct_read_panel), sl_read_panel⟩)
    (c_read_panel : PySem.W.codeIn K cd_read_panel "read_panel" = true)
    (k_read_panel : PySem.W.keepIn K (.ref f_read_panel) = true)
    (a_is_too_long : PySem.W.nsIn K mainGlobals "is_too_long" = some (some (.ref f_is_too_long)))
    (l_is_too_long : K.lookup f_is_too_long = some ⟨oc_is_too_long, od_is_too_long, .func (PySem.W.fnOf "is_too_long" "is_too_long" (defArgs s_is_too_long) (defBody s_is_too_long) (defScope s_is_too_long) .none kV_is_too_long dc_is_too_long pm_is_too_long an_is_too_long cd_is_too_long ct_is_too_long), sl_is_too_long⟩)
    (c_is_too_long : PySem.W.codeIn K cd_is_too_long "is_too_long" = true)
    (k_is_too_long : PySem.W.keepIn K (.ref f_is_too_long) = true)
    (a_tell_list : PySem.W.nsIn K mainGlobals "tell_list" = some (some (.ref f_tell_list)))
    (l_tell_list : K.lookup f_tell_list = some ⟨oc_tell_list, od_tell_list, .func (PySem.W.fnOf "tell_list" "tell_list" (defArgs s_tell_list) (defBody s_tell_list) (defScope s_tell_list) .none kV_tell_list dc_tell_list pm_tell_list an_tell_list cd_tell_list ct_tell_list), sl_tell_list⟩)
    (c_tell_list : PySem.W.codeIn K cd_tell_list "tell_list" = true)
    (k_tell_list : PySem.W.keepIn K (.ref f_tell_list) = true)
    (a_read : PySem.W.nsIn K mainGlobals "read" = some (some (.ref f_read)))
    (l_read : K.lookup f_read = some ⟨oc_read, od_read, .func (PySem.W.fnOf "read" "read" (defArgs s_read) (defBody s_read) (defScope s_read) .none kV_read dc_read pm_read an_read cd_read ct_read), sl_read⟩)
    (c_read : PySem.W.codeIn K cd_read "read" = true)
    (k_read : PySem.W.keepIn K (.ref f_read) = true)
    (z_enumerate : PySem.W.nsIn K mainGlobals "enumerate" = some none)
    (z_len : PySem.W.nsIn K mainGlobals "len" = some none)
    (z_list : PySem.W.nsIn K mainGlobals "list" = some none)
    (z_min : PySem.W.nsIn K mainGlobals "min" = some none)
    : ∃ fd : FuncData, (∀ (s : Shared) (us : List Value), us.length = (["t"] : List Str).length → BindsTo s fd ⟨us, []⟩ ((["t"] : List Str).zip us)) ∧ ∀ base : Heap, K.In base → base.Ns mainGlobals mg → FnOk P w K mg base CX0 3 fa fd ["t"] (sp_read K) := by
  have e := hfa.symm.trans (PySem.W.mg_of X G a_read)
  cases e
  have T : Txt K mg a_MARK a_UPRIGHT_SIGNS a_LEVEL_SIGNS := {
    m_MARK := PySem.W.mg_of X G x_MARK
    m_MOST_SQUARES := ⟨_, PySem.W.mg_of X G x_MOST_SQUARES⟩
    m_LINE_END := ⟨_, PySem.W.mg_of X G x_LINE_END⟩
    m_BLANK := ⟨_, PySem.W.mg_of X G x_BLANK⟩
    m_SQUARE := ⟨_, PySem.W.mg_of X G x_SQUARE⟩
    m_UPRIGHT_SIGNS := PySem.W.mg_of X G x_UPRIGHT_SIGNS
    m_LEVEL_SIGNS := PySem.W.mg_of X G x_LEVEL_SIGNS
    m_MOST_NUMBERS := ⟨_, PySem.W.mg_of X G x_MOST_NUMBERS⟩
    m_TOO_LONG := ⟨_, PySem.W.mg_of X G x_TOO_LONG⟩
    m_NOT_RIGHT := ⟨_, PySem.W.mg_of X G x_NOT_RIGHT⟩
    q_MARK := fun H => .inr ⟨_, _, _, y_MARK, rfl, rfl, (by show 4 ≤ sizeLine; decide), (.cons ⟨_, rfl⟩ (.cons ⟨_, rfl⟩ (.cons ⟨_, rfl⟩ (.cons ⟨_, rfl⟩ .nil))))⟩
    q_UPRIGHT_SIGNS := fun H => .inr ⟨_, _, _, y_UPRIGHT_SIGNS, rfl, rfl, (by show 3 ≤ sizeLine; decide), (.cons ⟨_, rfl⟩ (.cons ⟨_, rfl⟩ (.cons ⟨_, rfl⟩ .nil)))⟩
    k_UPRIGHT_SIGNS := ⟨_, y_UPRIGHT_SIGNS, rfl, rfl⟩
    q_LEVEL_SIGNS := fun H => .inr ⟨_, _, _, y_LEVEL_SIGNS, rfl, rfl, (by show 3 ≤ sizeLine; decide), (.cons ⟨_, rfl⟩ (.cons ⟨_, rfl⟩ (.cons ⟨_, rfl⟩ .nil)))⟩
    k_LEVEL_SIGNS := ⟨_, y_LEVEL_SIGNS, rfl, rfl⟩
    n_enumerate := PySem.W.mg_none_of X G z_enumerate
    n_len := PySem.W.mg_none_of X G z_len
    n_list := PySem.W.mg_none_of X G z_list
    n_min := PySem.W.mg_none_of X G z_min
  }
  have F_measure_wide := fun_mk (st := s_measure_wide) l_measure_wide c_measure_wide k_measure_wide
  have F_list_signs := fun_mk (st := s_list_signs) l_list_signs c_list_signs k_list_signs
  have F_find_drawing_fault := fun_mk (st := s_find_drawing_fault) l_find_drawing_fault c_find_drawing_fault k_find_drawing_fault
  have F_read_panel := fun_mk (st := s_read_panel) l_read_panel c_read_panel k_read_panel
  have F_is_too_long := fun_mk (st := s_is_too_long) l_is_too_long c_is_too_long k_is_too_long
  have F_tell_list := fun_mk (st := s_tell_list) l_tell_list c_tell_list k_tell_list
  have F_read := fun_mk (st := s_read) l_read c_read k_read
  refine ⟨PySem.W.fnOf "read" "read" (defArgs s_read) (defBody s_read) (defScope s_read) .none kV_read dc_read pm_read an_read cd_read ct_read, fun s us hu => match us, hu with | [_], _ => .of_eq rfl, fun base _ _ => ?_⟩
  have C_measure_wide : Cal P w K mg base "measure_wide" 1 ["t"] (sp_measure_wide K) := cal_measure_wide F_measure_wide T (PySem.W.mg_of X G a_measure_wide)
  have C_list_signs : Cal P w K mg base "list_signs" 1 ["at", "wide"] (sp_list_signs K) := cal_list_signs F_list_signs T (PySem.W.mg_of X G a_list_signs)
  have C_find_drawing_fault : Cal P w K mg base "find_drawing_fault" 2 ["t"] (sp_find_drawing_fault K) := cal_find_drawing_fault F_find_drawing_fault T C_measure_wide C_list_signs (PySem.W.mg_of X G a_find_drawing_fault)
  have C_read_panel : Cal P w K mg base "read_panel" 2 ["t"] (sp_read_panel K) := cal_read_panel F_read_panel T C_measure_wide C_list_signs (PySem.W.mg_of X G a_read_panel)
  have C_is_too_long : Cal P w K mg base "is_too_long" 1 ["numbers"] (sp_is_too_long K) := cal_is_too_long F_is_too_long T (PySem.W.mg_of X G a_is_too_long)
  have C_tell_list : Cal P w K mg base "tell_list" 1 ["numbers"] (sp_tell_list K) := cal_tell_list F_tell_list T (PySem.W.mg_of X G a_tell_list)
  exact F_read.ok sc_read (fun vs H Q E h => ln_read h) (fun cdv A outer s H vs Q E hr h => ⟨_, dv_read T C_find_drawing_fault C_read_panel C_is_too_long C_tell_list hr, rd_read h⟩)
end Lw
open PySem PySem.W PyProof.Rows
set_option maxRecDepth 100000 in
set_option maxHeartbeats 0 in
theorem PySem.Challenge.cw_interlace_s08_read_holds : PySem.Challenge.rw_interlace_s08_read.Holds := by
  w_on; k_headS; (case hw => exact ⟨[.list []], by decide +kernel, by decide +kernel⟩)
  k_fillS
  refine L2.walk_specK (r := PySem.Challenge.rw_interlace_s08_read) (k := 3) (CX := L2.CX0) (ps := ["t"]) (sp := fun K => Il.sp_read K) (by decide +kernel) rfl rfl ⟨rfl, by decide, by decide⟩ (fun w h Y => PySem.W.kIn_of Y) ?F ?S (fun _ _ _ _ z => z)
  case F =>
    intro w mg fa h Y KX G hmg
    refine' Lw.all_mk KX G hmg ?x_MARK ?x_MOST_SQUARES ?x_LINE_END ?x_BLANK ?x_SQUARE ?x_UPRIGHT_SIGNS ?x_LEVEL_SIGNS ?x_MOST_NUMBERS ?x_TOO_LONG ?x_NOT_RIGHT ?y_MARK ?y_UPRIGHT_SIGNS ?y_LEVEL_SIGNS ?a_measure_wide ?l_measure_wide ?c_measure_wide ?k_measure_wide ?a_list_signs ?l_list_signs ?c_list_signs ?k_list_signs ?a_find_drawing_fault ?l_find_drawing_fault ?c_find_drawing_fault ?k_find_drawing_fault ?a_read_panel ?l_read_panel ?c_read_panel ?k_read_panel ?a_is_too_long ?l_is_too_long ?c_is_too_long ?k_is_too_long ?a_tell_list ?l_tell_list ?c_tell_list ?k_tell_list ?a_read ?l_read ?c_read ?k_read ?z_enumerate ?z_len ?z_list ?z_min
    (case x_MARK => k_is)
    (case x_MOST_SQUARES => k_is)
    (case x_LINE_END => k_is)
    (case x_BLANK => k_is)
    (case x_SQUARE => k_is)
    (case x_UPRIGHT_SIGNS => k_is)
    (case x_LEVEL_SIGNS => k_is)
    (case x_MOST_NUMBERS => k_is)
    (case x_TOO_LONG => k_is)
    (case x_NOT_RIGHT => k_is)
    (case y_MARK => k_is)
    (case y_UPRIGHT_SIGNS => k_is)
    (case y_LEVEL_SIGNS => k_is)
    (case a_measure_wide => k_is)
    (case l_measure_wide => k_is)
    (case c_measure_wide => k_is)
    (case k_measure_wide => k_is)
    (case a_list_signs => k_is)
    (case l_list_signs => k_is)
    (case c_list_signs => k_is)
    (case k_list_signs => k_is)
    (case a_find_drawing_fault => k_is)
    (case l_find_drawing_fault => k_is)
    (case c_find_drawing_fault => k_is)
    (case k_find_drawing_fault => k_is)
    (case a_read_panel => k_is)
    (case l_read_panel => k_is)
    (case c_read_panel => k_is)
    (case k_read_panel => k_is)
    (case a_is_too_long => k_is)
    (case l_is_too_long => k_is)
    (case c_is_too_long => k_is)
    (case k_is_too_long => k_is)
    (case a_tell_list => k_is)
    (case l_tell_list => k_is)
    (case c_tell_list => k_is)
    (case k_tell_list => k_is)
    (case a_read => k_is)
    (case l_read => k_is)
    (case c_read => k_is)
    (case k_read => k_is)
    (case z_enumerate => k_is)
    (case z_len => k_is)
    (case z_list => k_is)
    (case z_min => k_is)
  case S =>
    intro K H xs a hO hwi hask hx
    have hw0 : (((PySem.W.Codec.inLen 0 2000 a.1 && a.1.all (PySem.W.Codec.inInt 0 255)) && true)) = true := hwi
    obtain ⟨v0, r0, rfl, d0, hx0⟩ := L3.dwAll_cons hx
    have en := L3.dwAll_nil hx0
    subst en
    obtain ⟨p0, rfl, q0⟩ := L3.dw_lst (ns := a.1) d0
    have b0 := (Bool.and_eq_true_iff.mp hw0).1
    have g0 := (Bool.and_eq_true_iff.mp hw0).2
    exact ⟨p0, a.1, rfl, ⟨q0, (L3.in_list b0).2, (L3.in_list b0).1⟩, fun H2 l hl => .lst (L2.SqL.of hl) (L2.dw_ints _)⟩

