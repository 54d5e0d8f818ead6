import PyProof.Rows.All
import Wide.All
import OpenK.AllK
import Wide.FinOn
import PyProof.EqAt
import PyProof.EqKinds
import PyProof.TupleCall
import KE.BitLaws
import Open.SpecLaws
import KE.OsHead
import KE.OsGo
import PyProof.Rows.SetFrom
import KE.KMinKey
import PyKyg
import PySem.Challenge.RW_chordgrip_s04_grip
set_option Elab.async false
set_option linter.all false
set_option maxRecDepth 100000
/-! THE HAND LAYER, for ints, bools, texts, own classes, lists, tuples, dicts, comprehensions, walks over dicts, enumerate, zip, reversed, texts, calls, loops. Paste it whole ahead of your own text; what your proof does not reach may be deleted. -/
namespace L2
open PySem PySem.Spec PyProof.Rows

/-- a key: an int or a str -/
abbrev Key := Sum Int Str
def keyIs : Key → Value → Bool
  | .inl k, v => Value.isInt k v
  | .inr x, v => Value.isStrOf x v
def keyH (w : World) : Key → Int
  | .inl k => hashInt k
  | .inr x => hashStr w x
theorem keyIs_shape : ∀ {k : Key} {v : Value}, keyIs k v = true → (∃ i t, k = Sum.inl i ∧ v = Value.int i t) ∨ (∃ x t, k = Sum.inr x ∧ v = Value.str x t)
  | .inl i, v, h => by
    obtain ⟨t, e⟩ := Value.isInt_shape (k := i) (v := v) h
    exact .inl ⟨i, t, rfl, e⟩
  | .inr x, v, h => by
    obtain ⟨t, e⟩ := Value.isStrOf_shape (x := x) (v := v) h
    exact .inr ⟨x, t, rfl, e⟩
theorem key_ll (a b : Int) : decide ((Sum.inl a : Key) = Sum.inl b) = (a == b) := by
  by_cases e : a = b
  · subst e; simp
  · have h : ¬ (Sum.inl a : Key) = Sum.inl b := fun q => e (Sum.inl.inj q)
    rw [decide_eq_false h]
    exact (beq_eq_false_iff_ne.mpr e).symm
theorem key_rr (a b : Str) : decide ((Sum.inr a : Key) = Sum.inr b) = decide (a = b) := by
  by_cases e : a = b
  · subst e; simp
  · have h : ¬ (Sum.inr a : Key) = Sum.inr b := fun q => e (Sum.inr.inj q)
    rw [decide_eq_false h, decide_eq_false e]
theorem key_lr (a : Int) (b : Str) : decide ((Sum.inl a : Key) = Sum.inr b) = false := decide_eq_false (fun q => nomatch q)
theorem key_rl (a : Str) (b : Int) : decide ((Sum.inr a : Key) = Sum.inl b) = false := decide_eq_false (fun q => nomatch q)

def mixKind (prog : Program) (w : World) : PySem.KeyKind prog w Key where
  is := keyIs
  hash := keyH w
  inj := fun v a b ha hb => by
    rcases keyIs_shape ha with ⟨i, t, rfl, rfl⟩ | ⟨x, t, rfl, rfl⟩
    · rcases keyIs_shape hb with ⟨j, u, rfl, e⟩ | ⟨y, u, rfl, e⟩
      · injection e with e1 _; rw [e1]
      · exact nomatch e
    · rcases keyIs_shape hb with ⟨j, u, rfl, e⟩ | ⟨y, u, rfl, e⟩
      · exact nomatch e
      · injection e with e1 _; rw [e1]
  byValue := fun k v h => by
    rcases keyIs_shape h with ⟨i, t, rfl, rfl⟩ | ⟨x, t, rfl, rfl⟩ <;> rfl
  pyHash := fun hv h => by
    rcases keyIs_shape hv with ⟨i, t, rfl, rfl⟩ | ⟨x, t, rfl, rfl⟩
    · exact wpAny_pyHash_int h
    · exact wpAny_pyHash_str h
  eqBool := fun hu hv h => by
    rcases keyIs_shape hu with ⟨i, t, rfl, rfl⟩ | ⟨x, t, rfl, rfl⟩
    · rcases keyIs_shape hv with ⟨j, u, rfl, rfl⟩ | ⟨y, u, rfl, rfl⟩
      · rw [key_ll] at h; exact wpAny_eqBool_int h
      · rw [key_lr] at h; exact SeqAt.EqAt.int_str i t y u _ _ _ _ h
    · rcases keyIs_shape hv with ⟨j, u, rfl, rfl⟩ | ⟨y, u, rfl, rfl⟩
      · rw [key_rl] at h; exact SeqAt.EqAt.str_int x t j u _ _ _ _ h
      · rw [key_rr] at h; exact wpAny_eqBool_str h
  «strs» := fun k x t v h => by
    rcases keyIs_shape h with ⟨i, u, rfl, e⟩ | ⟨y, u, rfl, e⟩
    · exact nomatch e
    · injection e with e1 _
      subst e1
      cases v <;> rfl

end L2

namespace L2
open PySem PySem.Spec PyProof.Rows

/-- a value, without the heap -/
inductive V where
  | non | bl (b : Bool) | int (i : Int) | str (x : Str) | byt (b : Array UInt8) | flt (b : UInt64) | ref (a : Addr) | ty (n : String)
  deriving DecidableEq

def RelV : V → Value → Prop
  | .non, u => u = Value.none
  | .bl b, u => u = Value.bool b
  | .int i, u => ∃ t, u = Value.int i t
  | .str x, u => ∃ t, u = Value.str x t
  | .byt b, u => ∃ t, u = Value.bytes b t
  | .flt b, u => ∃ t, u = Value.float b t
  | .ref a, u => u = Value.ref a
  | .ty n, u => u = Value.type n

abbrev Vals : List V → List Value → Prop := Paired RelV
theorem Vals.length {xs : List V} {us : List Value} (r : Vals xs us) : xs.length = us.length := Paired.length r
theorem Vals.get : ∀ {xs : List V} {us : List Value} {i : Nat} {x : V}, Vals xs us → xs[i]? = some x → ∃ u, us[i]? = some u ∧ RelV x u
  | _, _, _, _, .nil, e => by simp at e
  | _, _, 0, _, .cons r _, e => by simp at e; subst e; exact ⟨_, rfl, r⟩
  | _, _, i + 1, x, .cons _ t, e => by
    obtain ⟨u, h1, h2⟩ := Vals.get (i := i) (x := x) t (by simpa using e)
    exact ⟨u, by simpa using h1, h2⟩
theorem Vals.append : ∀ {xs ys : List V} {us ws : List Value}, Vals xs us → Vals ys ws → Vals (xs ++ ys) (us ++ ws)
  | _, _, _, _, .nil, s => s
  | _, _, _, _, .cons r t, s => .cons r (Vals.append t s)
theorem Vals.take : ∀ {xs : List V} {us : List Value} (n : Nat), Vals xs us → Vals (xs.take n) (us.take n)
  | _, _, 0, _ => .nil
  | _, _, _ + 1, .nil => .nil
  | _, _, n + 1, .cons r t => .cons r (Vals.take n t)
theorem Vals.drop : ∀ {xs : List V} {us : List Value} (n : Nat), Vals xs us → Vals (xs.drop n) (us.drop n)
  | _, _, 0, r => r
  | _, _, _ + 1, .nil => .nil
  | _, _, n + 1, .cons _ t => Vals.drop n t
def RelO : Option V → Option Value → Prop
  | some v, some u => RelV v u
  | none, none => True
  | _, _ => False
def KV {κ : Type} : List (κ × V) → List (κ × Value) → Prop := Paired fun (p : κ × V) (q : κ × Value) => p.1 = q.1 ∧ RelV p.2 q.2

/-- a key of a dict (00_mix): an int or a text -/
def kV : Key → V
  | .inl i => .int i
  | .inr x => .str x

/-- what stands at a tracked address -/
inductive HO where
  /-- a list -/
  | lst (xs : List V)
  /-- a tuple (never changes) -/
  | tup (xs : List V)
  /-- a dict whose keys are ints and texts; one whose keys are tuples of ints and texts (the empty one is both) -/
  | dK (kvs : List (Key × V)) | dT (kvs : List (List Key × V))
  /-- a set of ints: its members, its size -/
  | set (S : Int → Bool) (n : Nat)
  /-- an instance of the class at C, its dict at dx, its attributes -/
  | ins (C dx : Addr) (fs : List (Str × V))
  /-- the dict of the instance at x -/
  | own (x : Addr)
  /-- the dict of an exception -/
  | xd (fs : List (Str × V))
  /-- a bound method, f of x -/
  | met (f x : Addr)
  /-- a range object lo, lo + 1, .. below hi -/
  | rng (lo hi : Int)
  /-- a thing that is known to the object (the script; a dict while a loop walks it): read, never written while it is so -/
  | frz (o : Obj) (u : HO)
  /-- a code object's table -/
  | tbl (ps : Array Value)
  /-- any other thing, by what is true of its one object (a def of one's own: SetO a S n := HO.ext fun h => ..) -/
  | ext (φ : Heap → Prop)

abbrev Hp := Addr → Option HO
def upd (H : Hp) (a : Addr) (o : HO) : Hp := fun b => if b = a then some o else H b
theorem upd_same {H : Hp} {a : Addr} {o : HO} : upd H a o a = some o := by unfold upd; rw [if_pos rfl]
theorem upd_ne {H : Hp} {a b : Addr} {o : HO} (h : b ≠ a) : upd H a o b = H b := by unfold upd; rw [if_neg h]
theorem ne_of_none {H : Hp} {a b : Addr} {o : HO} (h : H a = some o) (h' : H b = none) : a ≠ b := by
  intro e; subst e; rw [h] at h'; cases h'

section
variable (P : Program) (w : World)
def ObjOk (H : Hp) (h : Heap) (a : Addr) : HO → Prop
  | .lst xs => xs.length ≤ sizeLine ∧ ∃ (its : List Value) (n : Nat), Vals xs its ∧ h.get? a = some { cls := .type "list", data := .seq its.toArray n }
  | .tup xs => xs.length ≤ sizeLine ∧ ∃ its : List Value, Vals xs its ∧ IsTup h a its.toArray
  | .dK kvs => kvs.length ≤ sizeLine ∧ (a == sysModules) = false ∧ ∃ vs, KV kvs vs ∧ h.DictOf (mixKind P w) a vs
  | .dT kvs => kvs.length ≤ sizeLine ∧ (a == sysModules) = false ∧ ∃ xs : List (List Key × Addr × Value),
      Paired (fun (p : List Key × V) (q : List Key × Addr × Value) => p.1 = q.1 ∧ H q.2.1 = some (.tup (p.1.map kV)) ∧ RelV p.2 q.2.2) kvs xs ∧
      ∃ o es ep, h.get? a = some o ∧ o.ExactDict ∧ o.data = .dict es ep ∧ es.toList = xs.map (entryOfKey (tupleKind (mixKind P w))) ∧ (xs.map (·.1)).Nodup
  | .set S n => h.SetOf (intKind P w) a S n
  | .ins C dx fs => H dx = some (.own a) ∧ fs.length ≤ 1000 ∧ dx ≠ a ∧ h.get? a = some (PySem.W.instObj C dx) ∧
      ∃ mA, h.Ns1 dx mA ∧ (∀ f, RelO (fs.lookup f) (mA f)) ∧ PySem.Within mA (fs.map (·.1))
  | .own _ => ∃ o, h.get? a = some o
  | .xd fs => ∃ mA, h.Ns1 a mA ∧ ∀ f, RelO (fs.lookup f) (mA f)
  | .rng lo hi => ∃ t u v, h.get? a = some { cls := .type "range", data := .fields #[.int lo t, .int hi u, .int 1 v] }
  | .frz o u => h.get? a = some o ∧ ObjOk H h a u
  | .tbl ps => h.get? a = some { cls := .none, data := .fields ps }
  | .met f x => h.get? a = some (PySem.W.methodObj (.ref f) (.ref x))
  | .ext φ => φ h ∧ (∃ o, h.get? a = some o) ∧ ∀ h1 h2 : Heap, φ h1 → (∀ o, h1.get? a = some o → h2.get? a = some o) → φ h2
/-- the abstract heap is held -/
def HOk (H : Hp) (h : Heap) : Prop := ∀ a o, H a = some o → ObjOk P w H h a o
end

section
variable {P : Program} {w : World} {H H' : Hp} {h h' : Heap} {a : Addr} {o : HO}
theorem ObjOk.lt (x : ObjOk P w H h a o) : a < h.objs.size := by
  cases o with
  | lst xs => obtain ⟨_, _, _, _, e⟩ := x; exact Heap.lt_size e
  | tup xs => obtain ⟨_, _, _, p⟩ := x; exact p.lt
  | dK kvs => obtain ⟨_, _, _, _, o, _, _, e, _⟩ := x; exact Heap.lt_size e
  | dT kvs => obtain ⟨_, _, _, _, o, _, _, e, _⟩ := x; exact Heap.lt_size e
  | set S n => obtain ⟨o, _, _, _, e, _⟩ := x; exact Heap.lt_size e
  | ins C dx fs => obtain ⟨_, _, _, e, _⟩ := x; exact Heap.lt_size e
  | own y => obtain ⟨_, e⟩ := x; exact Heap.lt_size e
  | xd fs => obtain ⟨_, ⟨_, _, _, e, _⟩, _⟩ := x; exact Heap.lt_size e
  | rng lo hi => obtain ⟨_, _, _, e⟩ := x; exact Heap.lt_size e
  | frz ob u => obtain ⟨e, _⟩ := x; exact Heap.lt_size e
  | tbl ps => exact Heap.lt_size (show h.get? a = some _ from x)
  | met f y => exact Heap.lt_size (show h.get? a = some _ from x)
  | ext φ => obtain ⟨_, ⟨_, e⟩, _⟩ := x; exact Heap.lt_size e
theorem Paired.mapP {α β : Type} {F G : α → β → Prop} : ∀ {l₁ : List α} {l₂ : List β}, Paired F l₁ l₂ → (∀ a b, F a b → G a b) → Paired G l₁ l₂
  | _, _, .nil, _ => .nil
  | _, _, .cons r t, f => .cons (f _ _ r) (Paired.mapP t f)
/-- what an object's description leans on: its own object, its own dict, the tuples -/
theorem ObjOk.stay (x : ObjOk P w H h a o) (k : ∀ b u, (b = a ∨ H b = some (.own a)) → h.get? b = some u → h'.get? b = some u)
    (ho : ∀ b, H b = some (.own a) → H' b = some (.own a)) (ht : ∀ b xs, H b = some (.tup xs) → H' b = some (.tup xs)) : ObjOk P w H' h' a o := by
  induction o with
  | lst xs => obtain ⟨z, its, n, r, e⟩ := x; exact ⟨z, its, n, r, k _ _ (.inl rfl) e⟩
  | tup xs => obtain ⟨z, its, r, ob, e, c⟩ := x; exact ⟨z, its, r, ob, k _ _ (.inl rfl) e, c⟩
  | dK kvs => obtain ⟨z, y, vs, r, ob, es, ep, e, c⟩ := x; exact ⟨z, y, vs, r, ob, es, ep, k _ _ (.inl rfl) e, c⟩
  | dT kvs =>
    obtain ⟨z, y, xs, r, ob, es, ep, e, c⟩ := x
    exact ⟨z, y, xs, Paired.mapP r fun p q z => ⟨z.1, ht _ _ z.2.1, z.2.2⟩, ob, es, ep, k _ _ (.inl rfl) e, c⟩
  | set S n => obtain ⟨ob, es, ep, t, e, c⟩ := x; exact ⟨ob, es, ep, t, k _ _ (.inl rfl) e, c⟩
  | ins C dx fs =>
    obtain ⟨d, z, ne, e, mA, ⟨od, es, ep, e2, c⟩, r⟩ := x
    exact ⟨ho _ d, z, ne, k _ _ (.inl rfl) e, mA, ⟨od, es, ep, k _ _ (.inr d) e2, c⟩, r⟩
  | own y => obtain ⟨ob, e⟩ := x; exact ⟨ob, k _ _ (.inl rfl) e⟩
  | xd fs => obtain ⟨mA, ⟨od, es, ep, e, c⟩, r⟩ := x; exact ⟨mA, ⟨od, es, ep, k _ _ (.inl rfl) e, c⟩, r⟩
  | rng lo hi => obtain ⟨t, u, v, e⟩ := x; exact ⟨t, u, v, k _ _ (.inl rfl) e⟩
  | frz ob u ih => obtain ⟨e, q⟩ := x; exact ⟨k _ _ (.inl rfl) e, ih q⟩
  | tbl ps =>
    have e : h.get? a = some { cls := .none, data := .fields ps } := x
    show h'.get? a = some { cls := .none, data := .fields ps }
    exact k a _ (.inl rfl) e
  | met f y =>
    have e : h.get? a = some (PySem.W.methodObj (.ref f) (.ref y)) := x
    show h'.get? a = some (PySem.W.methodObj (.ref f) (.ref y))
    exact k a _ (.inl rfl) e
  | ext φ => obtain ⟨p, ⟨o, e⟩, st⟩ := x; exact ⟨st _ _ p fun o q => k _ _ (.inl rfl) q, ⟨o, k _ _ (.inl rfl) e⟩, st⟩
theorem HOk.lt (x : HOk P w H h) (e : H a = some o) : a < h.objs.size := (x a o e).lt
theorem HOk.fresh (x : HOk P w H h) (e : h.objs.size ≤ a) : H a = none := by
  cases q : H a with
  | none => rfl
  | some u => exact absurd (Nat.lt_of_lt_of_le (x.lt q) e) (Nat.lt_irrefl _)
/-- every object of the heap is kept -/
theorem HOk.kept (x : HOk P w H h) (k : ∀ b u, h.get? b = some u → h'.get? b = some u) : HOk P w H h' := fun a o e =>
  (x a o e).stay (fun b u _ q => k b u q) (fun _ q => q) fun _ _ q => q
/-- a new object is laid and tracked -/
theorem HOk.laid (x : HOk P w H h) (k : ∀ b u, h.get? b = some u → h'.get? b = some u) (hp : h.objs.size ≤ a) (new : ObjOk P w (upd H a o) h' a o) : HOk P w (upd H a o) h' := fun b u e => by
  have hn := x.fresh hp
  by_cases hb : b = a
  · subst hb; rw [upd_same] at e; cases e; exact new
  · rw [upd_ne hb] at e
    exact (x b u e).stay (fun c v _ q => k c v q) (fun c q => by rw [upd_ne (ne_of_none q hn)]; exact q) fun c xs q => by rw [upd_ne (ne_of_none q hn)]; exact q
end

/-- what may be read as u: it is u, or a known u -/
def Rd (H : Hp) (a : Addr) (u : HO) : Prop := H a = some u ∨ ∃ o, H a = some (.frz o u)
theorem Rd.ok {P : Program} {w : World} {H : Hp} {h : Heap} {a : Addr} {u : HO} (r : Rd H a u) (x : HOk P w H h) : ObjOk P w H h a u := by
  rcases r with r | ⟨o, r⟩
  · exact x a u r
  · obtain ⟨_, q⟩ := x a _ r
    exact q
/-- what may be written -/
def Mut : Option HO → Prop
  | some (.lst _) => True
  | some (.dK _) => True
  | some (.dT _) => True
  | some (.set _ _) => True
  | some (.ins _ _ _) => True
  | some (.ext _) => True
  | _ => False
section
variable {P : Program} {w : World} {H : Hp} {h h' : Heap} {x e : Addr} {o' : HO}
/-- the object at e is changed: x itself, or the dict of the instance x -/
theorem HOk.write (ok : HOk P w H h) (mu : Mut (H x)) (he : e = x ∨ H e = some (.own x)) (k : ∀ b u, b ≠ e → h.get? b = some u → h'.get? b = some u) (heo : ∃ u, h'.get? e = some u)
    (new : ObjOk P w (upd H x o') h' x o') : HOk P w (upd H x o') h' := fun b u q => by
  have nown : ∀ c y, H c = some (.own y) → c ≠ x := fun c y r z => by subst z; rw [r] at mu; exact mu
  have ntup : ∀ c xs, H c = some (.tup xs) → c ≠ x := fun c xs r z => by subst z; rw [r] at mu; exact mu
  by_cases hb : b = x
  · subst hb; rw [upd_same] at q; cases q; exact new
  · rw [upd_ne hb] at q
    by_cases hbe : b = e
    · have q' : H b = some (.own x) := by
        rcases he with z | z
        · exact absurd (hbe.trans z) hb
        · rw [hbe]; exact z
      rw [q] at q'; cases q'
      obtain ⟨v, hv⟩ := heo
      exact ⟨v, by rw [hbe]; exact hv⟩
    · refine (ok b u q).stay (fun c v hc r => k c v ?_ r) (fun c r => by rw [upd_ne (nown c b r)]; exact r) fun c xs r => by rw [upd_ne (ntup c xs r)]; exact r
      rcases hc with rfl | hc
      · exact hbe
      · rintro rfl
        rcases he with z | z
        · exact nown c b hc z
        · rw [hc] at z; cases z; exact hb rfl
end

/-! ### kept unless tracked; of the frames at fs (the callers') the slots may change (an exception that passes writes there); of the records at ex (iterators) nothing is said -/
structure Un (fs ex : List Addr) (H H' : Hp) (h h' : Heap) : Prop where
  keep : ∀ b o, h.get? b = some o → H b = none → b ∉ fs → b ∉ ex → h'.get? b = some o
  slot : ∀ b o, h.get? b = some o → H b = none → b ∈ fs → b ∉ ex → ∃ sl, h'.get? b = some { o with slots := sl }
  free : ∀ b o, h.get? b = some o → H b = none → b ∉ ex → H' b = none
  there : ∀ b o, h.get? b = some o → b ∉ ex → ∃ o', h'.get? b = some o'
  tups : ∀ b xs, H b = some (.tup xs) → H' b = some (.tup xs)
  frzs : ∀ b o u, H b = some (.frz o u) → H' b = some (.frz o u)
  tbls : ∀ b ps, H b = some (.tbl ps) → ∃ more, H' b = some (.tbl (ps ++ more))
section
variable {fs fs' ex ex' : List Addr} {H H1 H2 : Hp} {h h1 h2 h' : Heap} {a x e : Addr} {o : HO}
theorem Un.any (u : Un fs ex H H1 h h1) {b : Addr} {ob : Obj} (q : h.get? b = some ob) (n : H b = none) (hx : b ∉ ex) : ∃ sl, h1.get? b = some { ob with slots := sl } := by
  by_cases hb : b ∈ fs
  · exact u.slot b ob q n hb hx
  · exact ⟨ob.slots, u.keep b ob q n hb hx⟩
theorem Un.kept (k : ∀ b u, h.get? b = some u → h'.get? b = some u) : Un fs ex H H h h' :=
  ⟨fun b ob q _ _ _ => k b ob q, fun b ob q _ _ _ => ⟨ob.slots, k b ob q⟩, fun _ _ _ n _ => n, fun b ob q _ => ⟨ob, k b ob q⟩, fun _ _ q => q, fun _ _ _ q => q, fun _ ps q => ⟨#[], by rw [q]; simp⟩⟩
theorem Un.refl : Un fs ex H H h h := Un.kept fun _ _ q => q
theorem Un.laid (k : ∀ b u, h.get? b = some u → h'.get? b = some u) (hp : h.objs.size ≤ a) (hn : H a = none) : Un fs ex H (upd H a o) h h' where
  keep := fun b u q _ _ _ => k b u q
  slot := fun b u q _ _ _ => ⟨u.slots, k b u q⟩
  free := fun b u q n _ => by rw [upd_ne (Nat.ne_of_lt (Nat.lt_of_lt_of_le (Heap.lt_size q) hp))]; exact n
  there := fun b u q _ => ⟨u, k b u q⟩
  tups := fun b xs q => by rw [upd_ne (ne_of_none q hn)]; exact q
  frzs := fun b u xs q => by rw [upd_ne (ne_of_none q hn)]; exact q
  tbls := fun b ps q => ⟨#[], by rw [upd_ne (ne_of_none q hn), q]; simp⟩
theorem Un.write (mu : Mut (H x)) (he : e = x ∨ H e = some (.own x)) (k : ∀ b u, b ≠ e → h.get? b = some u → h'.get? b = some u) (heo : ∃ u, h'.get? e = some u) : Un fs ex H (upd H x o) h h' := by
  have hx : ∀ b, H b = none → b ≠ x := fun b n z => by subst z; rw [n] at mu; exact mu
  have hb : ∀ b, H b = none → b ≠ e := fun b n z => by
    subst z
    rcases he with r | r
    · exact hx b n r
    · rw [n] at r; cases r
  have hm : ∀ b u, H b = some u → ¬ Mut (some u) → b ≠ x := fun b u q nm z => by subst z; rw [q] at mu; exact nm mu
  refine ⟨fun b u q n _ _ => k b u (hb b n) q, fun b u q n _ _ => ⟨u.slots, k b u (hb b n) q⟩, fun b u q n _ => by rw [upd_ne (hx b n)]; exact n, fun b u q _ => ?_,
    fun b xs q => by rw [upd_ne (hm b _ q fun z => z)]; exact q, fun b u xs q => by rw [upd_ne (hm b _ q fun z => z)]; exact q, fun b ps q => ⟨#[], by rw [upd_ne (hm b _ q fun z => z), q]; simp⟩⟩
  by_cases hbe : b = e
  · subst hbe; exact heo
  · exact ⟨u, k b u hbe q⟩
end

/-! ### the heap without what is tracked -/
def trk (h : Heap) (H : Hp) : List Addr := (List.range h.objs.size).filter fun a => (H a).isSome
def hidT (h : Heap) (H : Hp) : Heap := PySem.W.hideAll h (trk h H)
theorem hidT_size (h : Heap) (H : Hp) : (hidT h H).objs.size = h.objs.size := PySem.W.hideAll_size _ _
theorem hidT_get {h : Heap} {H : Hp} {b : Addr} {o : Obj} (e : h.get? b = some o) (n : H b = none) : (hidT h H).get? b = some o :=
  PySem.W.hideAll_get _ e fun hm => by
    have q : (H b).isSome = true := (List.mem_filter.mp hm).2
    rw [n] at q; simp at q
theorem of_hidT {h : Heap} {H : Hp} {b : Addr} {o : Obj} (e : (hidT h H).get? b = some o) : h.get? b = some o ∧ H b = none := by
  have e' : h.get? b = some o := PySem.W.of_hideAll (trk h H) e
  refine ⟨e', ?_⟩
  cases q : H b with
  | none => rfl
  | some x =>
    have hm : b ∈ trk h H := List.mem_filter.mpr ⟨List.mem_range.mpr (Heap.lt_size e'), by simp [q]⟩
    have z : (hidT h H).get? b = none := PySem.W.hideAll_none (trk h H) hm
    rw [z] at e; cases e

/-! ### OpenK's ledger, filled with every new object but one -/
def allNews (g h : Heap) (L : Addr) : List (Addr × Obj) := (List.range h.objs.size).filterMap fun a => if a = L ∨ (g.get? a).isSome = true then none else (h.get? a).map fun o => (a, o)
def rest (g h : Heap) (L d : Addr) : List (Addr × Obj) := (allNews g h L).filter fun p => decide (p.1 ≠ d)
end L2

namespace L2
open PySem PySem.Spec PyProof.Rows

/-- the module's facts, over the base: the heap at the law's entry without what is tracked there -/
structure Mod (K : PySem.W.Frag) (mg : Str → Option Value) (base : Heap) : Prop where
  kin : K.In base
  glob : base.Ns mainGlobals mg
  blt : ∃ mb, base.Ns builtinsNs mb ∧ ∀ x : Str, x ≠ "__name__" → mb x = bootBuiltins x
  nolimit : base.NoLimit

/-- the context: a def's body (or a comprehension's block) running. base: fixed through the whole law; s₀, H₀: the entry; outer: the frames whose slots others may change (a def's callers); stack: all frames that run;
   ex: iterators that were made ahead of the entry and are walked here (a comprehension's); fn: the names whose cells were made at the entry (a def: all; a comprehension's block: its own); calm: not within an except suite; pn: pins that every state bears; xe: what is wanted of an exception that leaves the code -/
structure Cx where
  prog : Program
  w : World
  K : PySem.W.Frag
  mg : Str → Option Value
  base : Heap
  A : Around
  N : List Str
  s_0 : Shared
  H_0 : Hp
  env : Env
  outer : List Env
  stack : List Env
  ex : List Addr
  fn : Str → Bool
  calm : Bool
  pn : List (Addr × Obj)
  xe : Value → Shared → Prop
/-- the callers' frames -/
def frs (l : List Env) : List Addr := l.filterMap (·.frame)
abbrev Cx.fs (X : Cx) : List Addr := frs X.outer

def Vis (sc : Scope) (x : Str) : Prop := sc.names.lookup x = some .local ∨ sc.names.lookup x = some .cell ∨ sc.names.lookup x = some .free
def Loc (sc : Scope) (x : Str) : Prop := sc.names.lookup x = some .local ∨ sc.names.lookup x = some .cell
def Look (env : Env) (h : Heap) (m : Str → Option Value) (x : Str) (u : Value) : Prop :=
  (env.kindOf x = some .local ∧ m x = some u) ∨ ((env.kindOf x = some .cell ∨ env.kindOf x = some .free) ∧ ∃ c, env.cells.lookup x = some c ∧ h.IsCell c (some u))

structure Cx.Ok (X : Cx) : Prop where
  mod : Mod X.K X.mg X.base
  kind : X.env.scope.kind = .function
  glob : X.env.globals = mainGlobals
  blt : X.env.builtins = builtinsNs
  above : X.s_0.heap.objs.size ≤ X.env.locals
  inj : ∀ x y c, X.env.cells.lookup x = some c → X.env.cells.lookup y = some c → x = y
  has : ∀ x, (X.env.kindOf x = some .cell ∨ X.env.kindOf x = some .free) → ∃ c, X.env.cells.lookup x = some c
  cab : ∀ x c, X.fn x = true → X.env.cells.lookup x = some c → X.s_0.heap.objs.size ≤ c
  hd : X.calm = true → X.A.handled = none
  frames : X.A.frames = some X.stack
  stk : X.stack = X.outer ∨ (X.stack = X.env :: X.outer ∧ X.env.frame = some X.env.locals)
  exf : ∀ b ∈ X.ex, b ≠ X.env.locals ∧ ∀ x c, X.env.cells.lookup x = some c → c ≠ b
  bs : ∀ b o, X.base.get? b = some o → X.s_0.heap.get? b = some o ∧ X.H_0 b = none
  bsz : X.base.objs.size ≤ X.s_0.heap.objs.size
  noex : ∀ b o, X.base.get? b = some o → b ∉ X.ex
  exfs : ∀ b ∈ X.ex, b ∉ X.fs
  funs : X.s_0.heap.FunFrames X.base X.outer
  frf : ∀ b ∈ X.fs, X.H_0 b = none

structure Inv (X : Cx) (pins : List (Addr × Obj)) (σ : List (Option V)) (H : Hp) (s : Shared) : Prop where
  ok : X.Ok
  os : s.os = X.s_0.os
  bare : AllBare s.gens
  base : Un X.fs X.ex X.H_0 H X.s_0.heap s.heap
  loc : ∃ m, s.heap.Ns X.env.locals m ∧ ∀ (i : Nat) (x : Str) (v : V), X.N[i]? = some x → σ[i]? = some (some v) → Vis X.env.scope x → ∃ u, RelV v u ∧ Look X.env s.heap m x u
  cell : ∀ x c, X.env.cells.lookup x = some c → ∃ v, s.heap.IsCell c v
  free : H X.env.locals = none
  freeC : ∀ x c, X.env.cells.lookup x = some c → H c = none
  pin : ∀ p ∈ X.pn ++ pins, s.heap.get? p.1 = some p.2 ∧ H p.1 = none ∧ p.1 ≠ X.env.locals ∧ p.1 ∉ X.fs ∧ ∀ v, p.2.data ≠ .cell v
  hok : HOk X.prog X.w H s.heap
  len : σ.length = X.N.length

section
variable {X : Cx} {pins : List (Addr × Obj)} {σ : List (Option V)} {H H' : Hp} {s : Shared} {h' : Heap}

theorem Cx.Ok.nofr (ok : X.Ok) {b : Addr} {o : Obj} (e : X.base.get? b = some o) : b ∉ X.fs := fun hb => by
  have := (ok.funs.mem hb).1
  rw [e] at this; cases this
theorem Inv.bs (I : Inv X pins σ H s) : ∀ b o, X.base.get? b = some o → s.heap.get? b = some o ∧ H b = none := fun b o e =>
  ⟨I.base.keep b o (I.ok.bs b o e).1 (I.ok.bs b o e).2 (I.ok.nofr e) (I.ok.noex b o e), I.base.free b o (I.ok.bs b o e).1 (I.ok.bs b o e).2 (I.ok.noex b o e)⟩
theorem Inv.bk (I : Inv X pins σ H s) : ∀ b o, X.base.get? b = some o → s.heap.get? b = some o := fun b o e => (I.bs b o e).1
theorem Inv.mod (I : Inv X pins σ H s) : Mod X.K X.mg X.base := I.ok.mod
theorem Inv.kIn (I : Inv X pins σ H s) : X.K.In s.heap := I.ok.mod.kin.keeps I.bk
theorem Inv.lt (I : Inv X pins σ H s) : X.env.locals < s.heap.objs.size := let ⟨_, hn, _⟩ := I.loc; hn.lt
theorem Inv.sz (I : Inv X pins σ H s) : X.s_0.heap.objs.size ≤ s.heap.objs.size := Nat.le_trans I.ok.above (Nat.le_of_lt I.lt)
theorem Inv.nofs (I : Inv X pins σ H s) {a : Addr} (h : s.heap.objs.size ≤ a) : a ∉ X.fs := fun hb => by
  obtain ⟨_, o, ho, _⟩ := I.ok.funs.mem hb
  exact absurd (Nat.lt_of_lt_of_le (Heap.lt_size ho) (Nat.le_trans I.sz h)) (Nat.lt_irrefl _)
theorem Inv.cne (I : Inv X pins σ H s) : ∀ x c, X.env.cells.lookup x = some c → c ≠ X.env.locals := fun x c e z => by
  obtain ⟨v, o, ho, hd⟩ := I.cell x c e
  obtain ⟨m, ⟨o', es, ep, ho', hd', _⟩, _⟩ := I.loc
  rw [z, ho'] at ho; cases ho; rw [hd'] at hd; cases hd
theorem Inv.funs (I : Inv X pins σ H s) : s.heap.FunFrames X.base X.outer := by
  have all : ∀ (l : List Env), (∀ b ∈ frs l, b ∈ X.fs) → X.s_0.heap.FunFrames X.base l → s.heap.FunFrames X.base l := by
    intro l
    induction l with
    | nil => intro _ _; trivial
    | cons env r ih =>
      intro hs hl
      obtain ⟨hk, ⟨L, o, hf, hn, ho, hd⟩, hr⟩ := hl
      have hL : L ∈ X.fs := hs L (by unfold frs; rw [List.filterMap_cons, hf]; exact List.mem_cons_self)
      obtain ⟨sl, e⟩ := I.base.slot L o ho (I.ok.frf L hL) hL fun z => I.ok.exfs L z hL
      exact ⟨hk, ⟨L, _, hf, hn, e, hd⟩, ih (fun b hb => hs b (by unfold frs; rw [List.filterMap_cons, hf]; exact List.mem_cons_of_mem _ hb)) hr⟩
  exact all X.outer (fun _ hb => hb) I.ok.funs

/-- the frames that run, for a call -/
theorem Inv.stack (I : Inv X pins σ H s) : s.heap.FunFrames X.base X.stack := by
  rcases I.ok.stk with e | ⟨e, hf⟩
  · rw [e]; exact I.funs
  · rw [e]
    obtain ⟨m, hn, _⟩ := I.loc
    refine .cons (by rw [I.ok.kind]; decide) hf hn ?_ I.funs
    exact Heap.get?_none_of_le (Nat.le_trans I.ok.bsz I.ok.above)
theorem Inv.stkSub (I : Inv X pins σ H s) : ∀ b ∈ frs X.stack, b ∈ X.env.locals :: X.fs := fun b hb => by
  rcases I.ok.stk with e | ⟨e, hf⟩
  · rw [e] at hb; exact List.mem_cons_of_mem _ hb
  · rw [e] at hb
    unfold frs at hb
    rw [List.filterMap_cons, hf] at hb
    exact hb
theorem Inv.stkFree (I : Inv X pins σ H s) : ∀ b ∈ frs X.stack, H b = none := fun b hb => by
  rcases List.mem_cons.mp (I.stkSub b hb) with e | hb
  · rw [e]; exact I.free
  · obtain ⟨_, o, ho, _⟩ := I.ok.funs.mem hb
    exact I.base.free b o ho (I.ok.frf b hb) fun z => I.ok.exfs b z hb

/-- THE STEP: the untracked objects but the frame and the records at ch are kept (the callers' frames up to slots), the frame's map is kept, the new abstract heap is held -/
theorem Inv.step {g' : Array GenState} {t' : Nat} {d' : Drawn} {ch : List Addr} (I : Inv X pins σ H s)
    (hch : ∀ b ∈ ch, (b ∈ X.ex ∨ X.s_0.heap.objs.size ≤ b) ∧ b ≠ X.env.locals ∧ (∀ x c, X.env.cells.lookup x = some c → c ≠ b) ∧ ∀ p ∈ X.pn ++ pins, p.1 ≠ b)
    (keep : ∀ b o, b ≠ X.env.locals → b ∉ X.fs → b ∉ ch → s.heap.get? b = some o → H b = none → h'.get? b = some o)
    (slot : ∀ b o, b ≠ X.env.locals → b ∈ X.fs → b ∉ ch → s.heap.get? b = some o → H b = none → ∃ sl, h'.get? b = some { o with slots := sl }) (free : ∀ b o, b ∉ ch → s.heap.get? b = some o → H b = none → H' b = none)
    (there : ∀ b o, b ∉ ch → s.heap.get? b = some o → ∃ o', h'.get? b = some o')
    (tups : ∀ b xs, H b = some (.tup xs) → H' b = some (.tup xs)) (frzs : ∀ b o u, H b = some (.frz o u) → H' b = some (.frz o u)) (tbls : ∀ b ps, H b = some (.tbl ps) → ∃ more, H' b = some (.tbl (ps ++ more)))
    (ns : ∀ m, s.heap.Ns X.env.locals m → h'.Ns X.env.locals m) (hok : HOk X.prog X.w H' h') (hg : AllBare g') :
    Inv X pins σ H' { s with heap := h', gens := g', drawn := d', toks := t' } := by
  have neL : ∀ b o, X.s_0.heap.get? b = some o → b ≠ X.env.locals := fun b o e => Nat.ne_of_lt (Nat.lt_of_lt_of_le (Heap.lt_size e) I.ok.above)
  have neC : ∀ b o, X.s_0.heap.get? b = some o → b ∉ X.ex → b ∉ ch := fun b o e hx hb => by
    rcases (hch b hb).1 with z | z
    · exact hx z
    · exact absurd (Nat.lt_of_lt_of_le (Heap.lt_size e) z) (Nat.lt_irrefl _)
  have cellK : ∀ x c, X.env.cells.lookup x = some c → ∀ v, s.heap.IsCell c v → h'.IsCell c v := fun x c e v ⟨o, ho, hd⟩ => by
    have nch : c ∉ ch := fun z => (hch c z).2.2.1 x c e rfl
    by_cases hc : c ∈ X.fs
    · obtain ⟨sl, q⟩ := slot c o (I.cne x c e) hc nch ho (I.freeC x c e)
      exact ⟨_, q, hd⟩
    · exact ⟨o, keep c o (I.cne x c e) hc nch ho (I.freeC x c e), hd⟩
  refine ⟨I.ok, I.os, hg, ⟨fun b o e n hb hx => ?_, fun b o e n hb hx => ?_, fun b o e n hx => ?_, fun b o e hx => ?_, fun b xs e => tups b xs (I.base.tups b xs e), fun b o xs e => frzs b o xs (I.base.frzs b o xs e), fun b ps e => ?_⟩, ?_, fun x c e => ?_, ?_, fun x c e => ?_, fun p hp => ?_, hok, I.len⟩
  · exact keep b o (neL b o e) hb (neC b o e hx) (I.base.keep b o e n hb hx) (I.base.free b o e n hx)
  · obtain ⟨sl, e1⟩ := I.base.slot b o e n hb hx
    obtain ⟨sl', e2⟩ := slot b _ (neL b o e) hb (neC b o e hx) e1 (I.base.free b o e n hx)
    exact ⟨sl', e2⟩
  · obtain ⟨o', e1⟩ := I.base.there b o e hx
    exact free b o' (neC b o e hx) e1 (I.base.free b o e n hx)
  · obtain ⟨o', e1⟩ := I.base.there b o e hx
    exact there b o' (neC b o e hx) e1
  · obtain ⟨m1, e1⟩ := I.base.tbls b ps e
    obtain ⟨m2, e2⟩ := tbls b _ e1
    exact ⟨m1 ++ m2, by rw [e2, Array.append_assoc]⟩
  · obtain ⟨m, hn, hl⟩ := I.loc
    refine ⟨m, ns m hn, fun i x v e1 e2 e3 => ?_⟩
    obtain ⟨u, r, l⟩ := hl i x v e1 e2 e3
    refine ⟨u, r, ?_⟩
    rcases l with l | ⟨k, c, e, z⟩
    · exact .inl l
    · exact .inr ⟨k, c, e, cellK x c e _ z⟩
  · obtain ⟨v, z⟩ := I.cell x c e
    exact ⟨v, cellK x c e v z⟩
  · obtain ⟨m, ⟨o, _, _, ho, _⟩, _⟩ := I.loc
    exact free _ o (fun z => (hch _ z).2.1 rfl) ho I.free
  · obtain ⟨v, o, ho, hd⟩ := I.cell x c e
    exact free c o (fun z => (hch c z).2.2.1 x c e rfl) ho (I.freeC x c e)
  · obtain ⟨e, n, ne, nf, d⟩ := I.pin p hp
    have nch : p.1 ∉ ch := fun z => (hch p.1 z).2.2.2 p hp rfl
    exact ⟨keep p.1 p.2 ne nf nch e n, free p.1 p.2 nch e n, ne, nf, d⟩
/-- .. where the frame's own object is kept too -/
theorem Inv.un {t' : Nat} (I : Inv X pins σ H s) (u : Un X.fs [] H H' s.heap h') (hok : HOk X.prog X.w H' h') : Inv X pins σ H' { s with heap := h', toks := t' } := by
  obtain ⟨m, ⟨o, es, ep, ho, r⟩, _⟩ := id I.loc
  obtain ⟨sl, hL⟩ := u.any ho I.free (by simp)
  exact I.step (g' := s.gens) (d' := s.drawn) (ch := []) (fun _ z => nomatch z) (fun b o _ hb _ e n => u.keep b o e n hb (by simp)) (fun b o _ hb _ e n => u.slot b o e n hb (by simp)) (fun b o _ e n => u.free b o e n (by simp)) (fun b o _ e => u.there b o e (by simp)) u.tups u.frzs u.tbls (fun m' hm => by
    obtain ⟨o', es', ep', ho', r'⟩ := hm
    rw [ho] at ho'; cases ho'
    exact ⟨_, es', ep', hL, r'⟩) hok I.bare
/-- behind a call (or a comprehension's block): the slots of this frame may have changed too, the records at ch may have turned -/
theorem Inv.call {g' : Array GenState} {t' : Nat} {d' : Drawn} {ch : List Addr} (I : Inv X pins σ H s) (u : Un (frs X.stack) ch H H' s.heap h') (hok : HOk X.prog X.w H' h') (hg : AllBare g')
    (hch : ∀ b ∈ ch, (b ∈ X.ex ∨ X.s_0.heap.objs.size ≤ b) ∧ b ≠ X.env.locals ∧ (∀ x c, X.env.cells.lookup x = some c → c ≠ b) ∧ ∀ p ∈ X.pn ++ pins, p.1 ≠ b) :
    Inv X pins σ H' { s with heap := h', gens := g', drawn := d', toks := t' } := by
  obtain ⟨m, ⟨o, es, ep, ho, r⟩, _⟩ := id I.loc
  obtain ⟨sl, hL⟩ := u.any ho I.free fun z => (hch _ z).2.1 rfl
  exact I.step (ch := ch) hch (fun b o hL hb hc e n => u.keep b o e n (fun z => (List.mem_cons.mp (I.stkSub b z)).elim hL hb) hc) (fun b o _ _ hc e n => u.any e n hc) (fun b o hc e n => u.free b o e n hc) (fun b o hc e => u.there b o e hc) u.tups u.frzs u.tbls (fun m' hm => by
    obtain ⟨o', es', ep', ho', r'⟩ := hm
    rw [ho] at ho'; cases ho'
    exact ⟨_, es', ep', hL, r'⟩) hok hg
/-- an untracked record of ours (an iterator) has turned -/
theorem Inv.turned {t' : Nat} {it : Addr} (I : Inv X pins σ H s) (k : ∀ b o, b ≠ it → s.heap.get? b = some o → h'.get? b = some o) (hn : H it = none) (hL : it ≠ X.env.locals)
    (h1 : it ∈ X.ex ∨ X.s_0.heap.objs.size ≤ it) (h2 : ∀ x c, X.env.cells.lookup x = some c → c ≠ it) (h3 : ∀ p ∈ X.pn ++ pins, p.1 ≠ it) : Inv X pins σ H { s with heap := h', toks := t' } := by
  have nit : ∀ b u, H b = some u → b ≠ it := fun b u e z => by rw [z, hn] at e; cases e
  refine I.step (g' := s.gens) (d' := s.drawn) (ch := [it]) (fun b hb => ?_) (fun b o _ _ hc e _ => k b o (fun z => hc (by simp [z])) e) (fun b o _ _ hc e _ => ⟨o.slots, k b o (fun z => hc (by simp [z])) e⟩) (fun _ _ _ _ n => n)
    (fun b o hc e => ⟨o, k b o (fun z => hc (by simp [z])) e⟩) (fun _ _ e => e) (fun _ _ _ e => e) (fun b ps e => ⟨#[], by rw [e]; simp⟩) (fun m hm => ?_) (fun b u e => ?_) I.bare
  · have e : b = it := by simpa using hb
    subst e
    exact ⟨h1, hL, h2, h3⟩
  · obtain ⟨o, es, ep, ho, r⟩ := hm
    exact ⟨o, es, ep, k _ o (Ne.symm hL) ho, r⟩
  · refine (I.hok b u e).stay (fun c v hc q => k c v ?_ q) (fun _ q => q) fun _ _ q => q
    rcases hc with z | z
    · rw [z]; exact nit b u e
    · exact nit c _ z
theorem Inv.tok (I : Inv X pins σ H s) (t : Nat) : Inv X pins σ H { s with toks := t } := I.un (h' := s.heap) (t' := t) Un.refl I.hok
/-- all objects kept -/
theorem Inv.kept {t' : Nat} (I : Inv X pins σ H s) (k : ∀ b u, s.heap.get? b = some u → h'.get? b = some u) : Inv X pins σ H { s with heap := h', toks := t' } := I.un (Un.kept k) (I.hok.kept k)
/-- a new object laid and tracked -/
theorem Inv.laid {a : Addr} {o : HO} {t' : Nat} (I : Inv X pins σ H s) (k : ∀ b u, s.heap.get? b = some u → h'.get? b = some u) (hp : s.heap.objs.size ≤ a) (new : ObjOk X.prog X.w (upd H a o) h' a o) :
    Inv X pins σ (upd H a o) { s with heap := h', toks := t' } := I.un (Un.laid k hp (I.hok.fresh hp)) (I.hok.laid k hp new)
/-- an object written -/
theorem Inv.write {x e : Addr} {o : HO} {t' : Nat} (I : Inv X pins σ H s) (mu : Mut (H x)) (he : e = x ∨ H e = some (.own x)) (k : ∀ b u, b ≠ e → s.heap.get? b = some u → h'.get? b = some u) (heo : ∃ u, h'.get? e = some u)
    (new : ObjOk X.prog X.w (upd H x o) h' x o) : Inv X pins σ (upd H x o) { s with heap := h', toks := t' } := I.un (Un.write mu he k heo) (I.hok.write mu he k heo new)
/-- forgetting slots, pins -/
theorem Inv.weak {σ' : List (Option V)} (I : Inv X pins σ H s) (hl : σ'.length = σ.length) (w : ∀ (i : Nat) v, σ'[i]? = some (some v) → σ[i]? = some (some v)) : Inv X pins σ' H s :=
  ⟨I.ok, I.os, I.bare, I.base, let ⟨m, hn, hl'⟩ := I.loc; ⟨m, hn, fun i x v e1 e2 e3 => hl' i x v e1 (w i v e2) e3⟩, I.cell, I.free, I.freeC, I.pin, I.hok, hl.trans I.len⟩
theorem Inv.pins_of {pins' : List (Addr × Obj)} (I : Inv X pins σ H s) (h : ∀ p ∈ pins', s.heap.get? p.1 = some p.2 ∧ H p.1 = none ∧ p.1 ≠ X.env.locals ∧ p.1 ∉ X.fs ∧ ∀ v, p.2.data ≠ .cell v) : Inv X pins' σ H s :=
  ⟨I.ok, I.os, I.bare, I.base, I.loc, I.cell, I.free, I.freeC, fun p hp => (List.mem_append.mp hp).elim (fun z => I.pin p (List.mem_append_left _ z)) (h p), I.hok, I.len⟩

theorem nodup_ix {N : List Str} (hN : N.Nodup) {i j : Nat} {x : Str} (a : N[i]? = some x) (b : N[j]? = some x) : i = j := by
  obtain ⟨h1, e1⟩ := List.getElem?_eq_some_iff.mp a
  obtain ⟨h2, e2⟩ := List.getElem?_eq_some_iff.mp b
  exact (List.getElem_inj hN).mp (e1.trans e2.symm)

/-- a name is stored; what changed -/
theorem store_ok2 {M : Model} {A : Around} {E : Value → Shared → Prop} {i : Nat} {x : Str} {v : V} {u : Value} {Q : Unit → Shared → Prop} (I : Inv X pins σ H s) (hN : X.N.Nodup) (hi : X.N[i]? = some x) (hx : Loc X.env.scope x) (r : RelV v u)
    (h : ∀ s', Inv X pins (σ.set i (some v)) H s' → (∃ a, Heap.SameBut a s.heap s'.heap ∧ (a = X.env.locals ∨ X.env.cells.lookup x = some a)) → Q () s') (hf : X.fn x = true ∨ X.env.scope.names.lookup x = some .local := by first | exact .inl rfl | exact .inr rfl | assumption) : wpAny M A (storeName X.env x u) Q E s := by
  obtain ⟨m, hn, hl⟩ := id I.loc
  have hcls : (X.env.scope.kind == .class || (X.env.scope.kind == .module && X.env.locals != X.env.globals)) = false := by rw [I.ok.kind]; rfl
  have hiσ : i < σ.length := by rw [I.len]; exact (List.getElem?_eq_some_iff.mp hi).1
  have cne := I.cne
  have tracked : ∀ {a : Addr} {h' : Heap}, (∃ o, s.heap.get? a = some o ∧ H a = none) → Heap.SameBut a s.heap h' → HOk X.prog X.w H h' := fun {a h'} ha hs b ob e => by
    obtain ⟨_, _, hfree⟩ := ha
    refine (I.hok b ob e).stay (fun c w' hc q => (hs.2 c ?_).trans q) (fun _ q => q) fun _ _ q => q
    rintro rfl
    rcases hc with rfl | hc
    · rw [hfree] at e; cases e
    · rw [hfree] at hc; cases hc
  rcases hx with hk | hk
  · refine wpAny_storeName_local hk hn (fun h' hn' hs => ?_) hcls
    obtain ⟨oL, _, _, hoL, _⟩ := id hn
    refine h _ ⟨I.ok, I.os, I.bare, ⟨fun b o e n hb hx => ?_, fun b o e n hb hx => ?_, I.base.free, fun b o e hx => ?_, I.base.tups, I.base.frzs, I.base.tbls⟩, ⟨_, hn', fun j y v' e1 e2 e3 => ?_⟩, fun y c e => ?_, I.free, I.freeC, fun p hp => ?_, tracked ⟨oL, hoL, I.free⟩ hs, by simpa using I.len⟩ ⟨_, hs, .inl rfl⟩
    · exact (hs.2 b (Nat.ne_of_lt (Nat.lt_of_lt_of_le (Heap.lt_size e) I.ok.above))).trans (I.base.keep b o e n hb hx)
    · obtain ⟨sl, e1⟩ := I.base.slot b o e n hb hx
      exact ⟨sl, (hs.2 b (Nat.ne_of_lt (Nat.lt_of_lt_of_le (Heap.lt_size e) I.ok.above))).trans e1⟩
    · obtain ⟨o', e1⟩ := I.base.there b o e hx
      exact ⟨o', (hs.2 b (Nat.ne_of_lt (Nat.lt_of_lt_of_le (Heap.lt_size e) I.ok.above))).trans e1⟩
    · by_cases hj : j = i
      · subst hj
        rw [hi] at e1; cases e1
        rw [List.getElem?_set_self hiσ] at e2
        cases e2
        exact ⟨u, r, .inl ⟨hk, by simp⟩⟩
      · rw [List.getElem?_set_ne (Ne.symm hj)] at e2
        obtain ⟨u', r', q⟩ := hl j y v' e1 e2 e3
        refine ⟨u', r', ?_⟩
        rcases q with ⟨k, e⟩ | ⟨k, c, e, z⟩
        · refine .inl ⟨k, ?_⟩
          have : y ≠ x := fun e => hj (nodup_ix hN e1 (e ▸ hi))
          simp [this, e]
        · exact .inr ⟨k, c, e, z.sameBut hs (cne y c e)⟩
    · obtain ⟨w', z⟩ := I.cell y c e
      exact ⟨w', z.sameBut hs (cne y c e)⟩
    · obtain ⟨e, n, ne, nf, d⟩ := I.pin p hp
      exact ⟨(hs.2 p.1 ne).trans e, n, ne, nf, d⟩
  · have hfn : X.fn x = true := by
      rcases hf with z | z
      · exact z
      · rw [z] at hk; cases hk
    obtain ⟨c, hc⟩ := I.ok.has x (.inl hk)
    obtain ⟨w', z⟩ := I.cell x c hc
    refine wpAny_storeName_cell I.ok.kind hk hc z (fun h' hc' hs => ?_)
    obtain ⟨oc, hoc, hocd⟩ := id z
    refine h { s with heap := h' } ⟨I.ok, I.os, I.bare, ⟨fun b o e n hb hx => ?_, fun b o e n hb hx => ?_, I.base.free, fun b o e hx => ?_, I.base.tups, I.base.frzs, I.base.tbls⟩, ⟨m, hn.sameBut hs (Ne.symm (cne x c hc)), fun j y v' e1 e2 e3 => ?_⟩, fun y c' e => ?_, I.free, I.freeC, fun p hp => ?_, tracked ⟨oc, hoc, I.freeC x c hc⟩ hs, by simpa using I.len⟩ ⟨c, hs, .inr hc⟩
    · exact (hs.2 b (Nat.ne_of_lt (Nat.lt_of_lt_of_le (Heap.lt_size e) (I.ok.cab x c hfn hc)))).trans (I.base.keep b o e n hb hx)
    · obtain ⟨sl, e1⟩ := I.base.slot b o e n hb hx
      exact ⟨sl, (hs.2 b (Nat.ne_of_lt (Nat.lt_of_lt_of_le (Heap.lt_size e) (I.ok.cab x c hfn hc)))).trans e1⟩
    · obtain ⟨o', e1⟩ := I.base.there b o e hx
      exact ⟨o', (hs.2 b (Nat.ne_of_lt (Nat.lt_of_lt_of_le (Heap.lt_size e) (I.ok.cab x c hfn hc)))).trans e1⟩
    · by_cases hj : j = i
      · subst hj
        rw [hi] at e1; cases e1
        rw [List.getElem?_set_self hiσ] at e2
        cases e2
        exact ⟨u, r, .inr ⟨.inl hk, c, hc, hc'⟩⟩
      · rw [List.getElem?_set_ne (Ne.symm hj)] at e2
        obtain ⟨u', r', q⟩ := hl j y v' e1 e2 e3
        refine ⟨u', r', ?_⟩
        rcases q with q | ⟨k, c', e, z'⟩
        · exact .inl q
        · refine .inr ⟨k, c', e, z'.sameBut hs ?_⟩
          rintro rfl
          exact hj (nodup_ix hN e1 (I.ok.inj _ _ _ e hc ▸ hi))
    · by_cases hcc : c' = c
      · subst hcc; exact ⟨_, hc'⟩
      · obtain ⟨w2, z2⟩ := I.cell y c' e
        exact ⟨w2, z2.sameBut hs hcc⟩
    · obtain ⟨e, n, ne, nf, d⟩ := I.pin p hp
      refine ⟨(hs.2 p.1 ?_).trans e, n, ne, nf, d⟩
      intro q
      rw [q, hoc] at e
      have q' : oc = p.2 := Option.some.inj e
      exact d w' (by rw [← q']; exact hocd)
theorem store_ok {M : Model} {A : Around} {E : Value → Shared → Prop} {i : Nat} {x : Str} {v : V} {u : Value} {Q : Unit → Shared → Prop} (I : Inv X pins σ H s) (hN : X.N.Nodup) (hi : X.N[i]? = some x) (hx : Loc X.env.scope x) (r : RelV v u)
    (h : ∀ s', Inv X pins (σ.set i (some v)) H s' → Q () s') (hf : X.fn x = true ∨ X.env.scope.names.lookup x = some .local := by first | exact .inl rfl | exact .inr rfl | assumption) : wpAny M A (storeName X.env x u) Q E s :=
  store_ok2 I hN hi hx r (fun s' I' _ => h s' I') hf
/-- behind a call or a block, the state as it is -/
theorem Inv.call' {s' : Shared} {ch : List Addr} (I : Inv X pins σ H s) (ho : s'.os = s.os) (u : Un (frs X.stack) ch H H' s.heap s'.heap) (hok : HOk X.prog X.w H' s'.heap) (hg : AllBare s'.gens)
    (hch : ∀ b ∈ ch, (b ∈ X.ex ∨ X.s_0.heap.objs.size ≤ b) ∧ b ≠ X.env.locals ∧ (∀ x c, X.env.cells.lookup x = some c → c ≠ b) ∧ ∀ p ∈ X.pn ++ pins, p.1 ≠ b) : Inv X pins σ H' s' := by
  obtain ⟨h', g', d', t', o'⟩ := s'
  have e : o' = s.os := ho
  subst e
  exact I.call (g' := g') (t' := t') (d' := d') u hok hg hch
end

/-! ### the judgements -/
/-- an exception: its class, its own dict's address (where it has one), the abstract heap behind it -/
abbrev XK := Value → Option Addr → Hp → Prop
abbrev St := List (Option V)
abbrev VK := V → Hp → Prop
/-- an expression's reading; a test's; an argument list's -/
abbrev TE := St → Hp → VK → Prop
abbrev TT := St → Hp → (Bool → Hp → Prop) → Prop
abbrev TA := St → Hp → (List V → Hp → Prop) → Prop
/-- what is wanted behind a statement -/
structure Ends where
  nx : St → Hp → Prop
  rt : VK
  bk : St → Hp → Prop := fun _ _ => False
  ct : St → Hp → Prop := fun _ _ => False
abbrev TS := Ends → St → Hp → Prop

def EP (X : Cx) (pins : List (Addr × Obj)) (σ : St) (Q : VK) (u : Value) (s' : Shared) : Prop := ∃ v H', Inv X pins σ H' s' ∧ RelV v u ∧ Q v H'
def TP (X : Cx) (pins : List (Addr × Obj)) (σ : St) (Q : Bool → Hp → Prop) (b : Bool) (s' : Shared) : Prop := ∃ H', Inv X pins σ H' s' ∧ Q b H'
def AP (X : Cx) (pins : List (Addr × Obj)) (σ : St) (Q : List V → Hp → Prop) (us : List Value) (s' : Shared) : Prop := ∃ vs H', Inv X pins σ H' s' ∧ Vals vs us ∧ Q vs H'
def SP (X : Cx) (pins : List (Addr × Obj)) (D : Ends) (f : Flow) (s' : Shared) : Prop :=
  match f with
  | .next => ∃ σ' H', Inv X pins σ' H' s' ∧ D.nx σ' H'
  | .brk => ∃ σ' H', Inv X pins σ' H' s' ∧ D.bk σ' H'
  | .cont => ∃ σ' H', Inv X pins σ' H' s' ∧ D.ct σ' H'
  | .ret u => ∃ v σ' H', Inv X pins σ' H' s' ∧ RelV v u ∧ D.rt v H'

def PE (X : Cx) (e : Expr) (t : TE) : Prop :=
  ∀ (pins : List (Addr × Obj)) (s : Shared) (σ : St) (H : Hp) (Q : VK), Inv X pins σ H s → t σ H Q → wpAny (model X.prog X.w) X.A (eval e X.env) (EP X pins σ Q) X.xe s
def PT (X : Cx) (e : Expr) (t : TT) : Prop :=
  ∀ (pins : List (Addr × Obj)) (s : Shared) (σ : St) (H : Hp) (Q : Bool → Hp → Prop), Inv X pins σ H s → t σ H Q → wpAny (model X.prog X.w) X.A (isTrue e X.env (eval e X.env)) (TP X pins σ Q) X.xe s
/-- a test whatever its 'whole' is (and, or) -/
def PW (X : Cx) (e : Expr) (t : TT) : Prop :=
  ∀ (whole : Sem Value) (pins : List (Addr × Obj)) (s : Shared) (σ : St) (H : Hp) (Q : Bool → Hp → Prop), Inv X pins σ H s → t σ H Q → wpAny (model X.prog X.w) X.A (isTrue e X.env whole) (TP X pins σ Q) X.xe s
theorem PW.pt {X : Cx} {e : Expr} {t : TT} (h : PW X e t) : PT X e t := h _
/-- an argument list (no star), from the left -/
def PA (X : Cx) (es : List Expr) (t : TA) : Prop :=
  ∀ (pos : Pos) (pins : List (Addr × Obj)) (s : Shared) (σ : St) (H : Hp) (Q : List V → Hp → Prop), Inv X pins σ H s → t σ H Q → wpAny (model X.prog X.w) X.A (spliced (backTo pos (starEach es X.env))) (AP X pins σ Q) X.xe s
def PS (X : Cx) (st : Stmt) (t : TS) : Prop :=
  ∀ (pins : List (Addr × Obj)) (s : Shared) (σ : St) (H : Hp) (D : Ends), Inv X pins σ H s → t D σ H → wpAny (model X.prog X.w) X.A (exec st X.env) (SP X pins D) X.xe s
def PSs (X : Cx) (st : List Stmt) (t : TS) : Prop :=
  ∀ (pins : List (Addr × Obj)) (s : Shared) (σ : St) (H : Hp) (D : Ends), Inv X pins σ H s → t D σ H → wpAny (model X.prog X.w) X.A (execs st X.env) (SP X pins D) X.xe s
/-- weaken the end -/
theorem thn {α : Type} {t : Sem α} {Q Q' : α → Shared → Prop} {M : Model} {A : Around} {E : Value → Shared → Prop} {s : Shared} (h : wpAny M A t Q E s) (hQ : ∀ a s, Q a s → Q' a s) : wpAny M A t Q' E s := wpAny_mono h hQ fun _ _ x => x
end L2

namespace L2
open PySem PySem.Spec PyProof.Rows
section
variable {X : Cx}

/-! ### names and constants -/
def tVar (i : Nat) : TE := fun σ H Q => ∃ v, σ[i]? = some (some v) ∧ Q v H
def tC (v : V) : TE := fun _ H Q => Q v H
theorem pe_var {i : Nat} {x : Str} {pos : Pos} (hN : X.N[i]? = some x) (hv : Vis X.env.scope x) (hd : (x == ("__debug__" : Str)) = false := by decide) (hcd : (x == ("__classdict__" : Str)) = false := by decide) : PE X (.Name x pos) (tVar i) := by
  intro pins s σ H Q I h
  obtain ⟨v, e, h⟩ := h
  obtain ⟨m, hn, hl⟩ := I.loc
  obtain ⟨u, r, l⟩ := hl i x v hN e hv
  have fin : EP X pins σ Q u s := ⟨v, H, I, r, h⟩
  rcases l with ⟨hk, hm⟩ | ⟨hk, c, hc, hcell⟩
  · exact wpAny_Name (wpAny_loadName_local I.ok.kind hk hn hm fin) hd
  · rcases hk with hk | hk
    · exact wpAny_Name (wpAny_loadName_cell I.ok.kind hk hc hcell fin) hd
    · exact wpAny_Name (wpAny_loadName_free I.ok.kind hk hc hcell fin hcd) hd
theorem pe_int {i j pos} : PE X (.Constant (.int i) j pos) (tC (.int i)) := fun _ _ _ H _ I h => wpAny_Constant_int ⟨.int i, H, I.tok _, ⟨_, rfl⟩, h⟩
theorem pe_bl {b j pos} : PE X (.Constant (.bool b) j pos) (tC (.bl b)) := fun _ _ _ H _ I h => Constant_bool ⟨.bl b, H, I, rfl, h⟩
theorem pe_non {j pos} : PE X (.Constant .none j pos) (tC .non) := fun _ _ _ H _ I h => Constant_none ⟨.non, H, I, rfl, h⟩
/-- a global name of the def -/
def Gl (X : Cx) (x : Str) : Prop := X.env.kindOf x = some .globalImplicit
theorem ld_glob {E : Value → Shared → Prop} {pins : List (Addr × Obj)} {s : Shared} {σ : St} {H : Hp} {x : Str} {u : Value} {pos : Pos} {Q : Value → Shared → Prop} (I : Inv X pins σ H s) (hg : Gl X x) (hm : X.mg x = some u) (h : Q u s)
    (hd : (x == ("__debug__" : Str)) = false := by decide) : wpAny (model X.prog X.w) X.A (eval (.Name x pos) X.env) Q E s :=
  Calls.Name_function_global I.ok.kind hg (Calls.loadGlobal_global (by rw [I.ok.glob]; exact I.mod.glob.keeps I.bk) hm h) hd
theorem ld_blt {E : Value → Shared → Prop} {pins : List (Addr × Obj)} {s : Shared} {σ : St} {H : Hp} {x : Str} {u : Value} {pos : Pos} {Q : Value → Shared → Prop} (I : Inv X pins σ H s) (hg : Gl X x) (hm : X.mg x = none) (hv : bootBuiltins x = some u) (h : Q u s)
    (hn : x ≠ "__name__" := by decide) (hd : (x == ("__debug__" : Str)) = false := by decide) : wpAny (model X.prog X.w) X.A (eval (.Name x pos) X.env) Q E s := by
  obtain ⟨mb, h1, h2⟩ := I.mod.blt
  exact Calls.Name_function_global I.ok.kind hg (Calls.loadGlobal_builtin (by rw [I.ok.glob]; exact I.mod.glob.keeps I.bk) hm (by rw [I.ok.blt]; exact h1.keeps I.bk) ((h2 x hn).trans hv) h) hd
/-- a module's constant, a class, a function, as a value -/
theorem pe_glob {x : Str} {v : V} {u : Value} {pos : Pos} (hg : Gl X x) (hm : X.mg x = some u) (r : RelV v u) (hd : (x == ("__debug__" : Str)) = false := by decide) : PE X (.Name x pos) (tC v) :=
  fun _ _ _ H _ I h => ld_glob I hg hm ⟨v, H, I, r, h⟩ hd
/-! ### arithmetic -/
/-- two ints -/
def t2I (ta tb : TE) (k : Int → Int → Hp → Prop) : St → Hp → Prop := fun σ H => ta σ H fun x H1 => tb σ H1 fun y H2 => ∃ i j, x = .int i ∧ y = .int j ∧ k i j H2
def tAdd (ta tb : TE) : TE := fun σ H Q => t2I ta tb (fun i j H2 => Q (.int (i + j)) H2) σ H
def tSub (ta tb : TE) : TE := fun σ H Q => t2I ta tb (fun i j H2 => Q (.int (i - j)) H2) σ H
/-- the left factor below 2^64 -/
def tMul (ta tb : TE) : TE := fun σ H Q => t2I ta tb (fun i j H2 => (-(2 ^ 64) < i ∧ i < 2 ^ 64) ∧ Q (.int (i * j)) H2) σ H
variable {a b : Expr} {ta tb : TE} {pos : Pos}
/-! ### comparisons -/
def PC (X : Cx) (op : CmpOp) (a b : Expr) (t : TE) : Prop :=
  ∀ (pins : List (Addr × Obj)) (s : Shared) (σ : St) (H : Hp) (Q : VK), Inv X pins σ H s → t σ H Q →
    wpAny (model X.prog X.w) X.A (eval a X.env) (fun v s₁ => wpAny (model X.prog X.w) X.A (eval b X.env) (fun u s₂ => wpAny (model X.prog X.w) X.A (compareOp op v u) (EP X pins σ Q) X.xe s₂) X.xe s₁) X.xe s
theorem nobehind (b : Expr) {op : CmpOp} (h : op ≠ .In) (h2 : op ≠ .NotIn) : behindInMarks op b = false := by
  have e1 : (op == CmpOp.In) = false := by cases op <;> first | rfl | exact absurd rfl h
  have e2 : (op == CmpOp.NotIn) = false := by cases op <;> first | rfl | exact absurd rfl h2
  cases b <;> simp [behindInMarks, e1, e2]
def tCmp (p : Int → Int → Bool) (ta tb : TE) : TE := fun σ H Q => t2I ta tb (fun i j H2 => Q (.bl (p i j)) H2) σ H
abbrev tLt : TE → TE → TE := tCmp fun i j => decide (i < j)
abbrev tLe : TE → TE → TE := tCmp fun i j => decide (i ≤ j)
abbrev tGt : TE → TE → TE := tCmp fun i j => decide (j < i)
abbrev tGe : TE → TE → TE := tCmp fun i j => decide (j ≤ i)
abbrev tEqI : TE → TE → TE := tCmp fun i j => decide (i = j)
abbrev tNeI : TE → TE → TE := tCmp fun i j => !decide (i = j)
/-- is None -/
def tIsN (ta : TE) : TE := fun σ H Q => ta σ H fun x H1 => Q (.bl (decide (x = .non))) H1
def tNotN (ta : TE) : TE := fun σ H Q => ta σ H fun x H1 => Q (.bl (!decide (x = .non))) H1
theorem RelV.none_iff {x : V} {v : Value} (r : RelV x v) : (v == Value.none) = decide (x = .non) := by
  cases x with
  | non => cases r; rfl
  | bl _ => cases r; rfl
  | int _ => obtain ⟨t, rfl⟩ := r; rfl
  | str _ => obtain ⟨t, rfl⟩ := r; rfl
  | byt _ => obtain ⟨t, rfl⟩ := r; rfl
  | flt _ => obtain ⟨t, rfl⟩ := r; rfl
  | ref _ => cases r; rfl
  | ty _ => cases r; rfl
theorem pc_isN {j pos'} (ha : PE X a ta) : PC X .Is a (.Constant .none j pos') (tIsN ta) := by
  intro pins s σ H Q I h
  refine thn (ha pins s σ H _ I h) fun v s1 ⟨x, H1, I1, r1, q1⟩ => ?_
  exact Constant_none (is_none_gen ⟨.bl _, H1, I1, by rw [r1.none_iff]; rfl, q1⟩)
theorem pc_notN {j pos'} (ha : PE X a ta) : PC X .IsNot a (.Constant .none j pos') (tNotN ta) := by
  intro pins s σ H Q I h
  refine thn (ha pins s σ H _ I h) fun v s1 ⟨x, H1, I1, r1, q1⟩ => ?_
  exact Constant_none (isnot_none_gen ⟨.bl _, H1, I1, by rw [r1.none_iff]; rfl, q1⟩)
/-- a comparison as a value, as a test -/
def tB (t : TE) : TT := fun σ H Q => t σ H fun x H1 => ∃ c, x = .bl c ∧ Q c H1
theorem pt_cmp {op : CmpOp} {t : TE} (h : PC X op a b t) (h1 : behindInMarks op b = false := by first | exact nobehind _ (by decide) (by decide) | rfl) : PT X (.Compare a [op] [b] pos) (tB t) := by
  intro pins s σ H Q I hw
  refine wpAny_isTrue_Compare1 (thn (h pins s σ H _ I hw) fun v s1 h1 => thn h1 fun u s2 h2 => thn h2 fun c s3 ⟨x, H1, I1, r1, q1⟩ => ?_) h1
  obtain ⟨d, rfl, q⟩ := q1
  cases r1
  exact wpAny_truthy_bool ⟨H1, I1, q⟩
/-- an expression whose value is a bool, as a test -/
theorem pt_val {e : Expr} {t : TE} (h : PE X e t) (he : ∀ whole, isTrue e X.env whole = (do let v ← whole; standAt e.pos; holding [v] (truthy v)) := by intro _; rfl) : PT X e (tB t) := by
  intro pins s σ H Q I hw
  refine isTrue_plain (thn (h pins s σ H _ I hw) fun v s1 ⟨x, H1, I1, r1, q1⟩ => ?_) (he _)
  obtain ⟨d, rfl, q⟩ := q1
  cases r1
  exact wpAny_truthy_bool ⟨H1, I1, q⟩

/-! ### and, or, not -/
variable {tA tB' : TT} {rest : List Expr}
def tAnd (t u : TT) : TT := fun σ H Q => t σ H fun c H1 => if c = true then u σ H1 Q else Q false H1
def tOr (t u : TT) : TT := fun σ H Q => t σ H fun c H1 => if c = true then Q true H1 else u σ H1 Q
def tNot (t : TT) : TT := fun σ H Q => t σ H fun c H1 => Q (!c) H1
theorem pw_and1 (ha : PT X a tA) : PW X (.BoolOp .And [a] pos) tA := by
  intro wh pins s σ H Q I h
  refine isTrue_and (thn (ha pins s σ H Q I h) fun c s1 e => ?_)
  cases c with
  | true => exact isTrue_and_nil e
  | false => exact e
theorem pw_or1 (ha : PT X a tA) : PW X (.BoolOp .Or [a] pos) tA := by
  intro wh pins s σ H Q I h
  refine isTrue_or (thn (ha pins s σ H Q I h) fun c s1 e => ?_)
  cases c with
  | false => exact isTrue_or_nil e
  | true => exact e
theorem pw_and (ha : PT X a tA) (hb : PW X (.BoolOp .And (b :: rest) pos) tB') : PW X (.BoolOp .And (a :: b :: rest) pos) (tAnd tA tB') := by
  intro wh pins s σ H Q I h
  refine isTrue_and (thn (ha pins s σ H _ I h) fun c s1 ⟨H1, I1, q1⟩ => ?_)
  cases c with
  | true => exact hb wh pins s1 σ H1 Q I1 q1
  | false => exact ⟨H1, I1, q1⟩
theorem pw_or (ha : PT X a tA) (hb : PW X (.BoolOp .Or (b :: rest) pos) tB') : PW X (.BoolOp .Or (a :: b :: rest) pos) (tOr tA tB') := by
  intro wh pins s σ H Q I h
  refine isTrue_or (thn (ha pins s σ H _ I h) fun c s1 ⟨H1, I1, q1⟩ => ?_)
  cases c with
  | true => exact ⟨H1, I1, q1⟩
  | false => exact hb wh pins s1 σ H1 Q I1 q1
theorem pt_not (ha : PT X a tA) : PT X (.UnaryOp .Not a pos) (tNot tA) := by
  intro pins s σ H Q I h
  exact isTrue_not (ha pins s σ H (fun c H1 => Q (!c) H1) I h)
/-- .. as values (bools) -/
def tAndV (ta tb : TE) : TE := fun σ H Q => ta σ H fun x H1 => ∃ c, x = .bl c ∧ if c = true then tb σ H1 Q else Q (.bl false) H1
def tOrV (ta tb : TE) : TE := fun σ H Q => ta σ H fun x H1 => ∃ c, x = .bl c ∧ if c = true then Q (.bl true) H1 else tb σ H1 Q
def tNotV (ta : TE) : TE := fun σ H Q => ta σ H fun x H1 => ∃ c, x = .bl c ∧ Q (.bl (!c)) H1
theorem pe_one {op} {t : TE} (h : PE X a t) : PE X (.BoolOp op [a] pos) t := fun pins s σ H Q I hw => BoolOp_one (h pins s σ H Q I hw)
theorem pe_and (ha : PE X a ta) (hb : PE X (.BoolOp .And (b :: rest) pos) tb) : PE X (.BoolOp .And (a :: b :: rest) pos) (tAndV ta tb) := by
  intro pins s σ H Q I h
  refine BoolOp_and (thn (ha pins s σ H _ I h) fun v s1 ⟨x, H1, I1, r1, q1⟩ => ?_)
  obtain ⟨c, rfl, q1⟩ := q1
  cases r1
  refine wpAny_truthy_bool ?_
  cases c with
  | true => exact hb pins s1 σ H1 Q I1 q1
  | false => exact ⟨.bl false, H1, I1, rfl, q1⟩
/-- a if t else b -/
def tIf (t : TT) (ta tb : TE) : TE := fun σ H Q => t σ H fun c H1 => if c = true then ta σ H1 Q else tb σ H1 Q
theorem pe_ifExp {c : Expr} (hc : PT X c tA) (ha : PE X a ta) (hb : PE X b tb) : PE X (.IfExp c a b pos) (tIf tA ta tb) := by
  intro pins s σ H Q I h
  refine wpAny_IfExp (thn (hc pins s σ H _ I h) fun d s1 ⟨H1, I1, q1⟩ => ?_)
  cases d with
  | true => exact ha pins s1 σ H1 Q I1 q1
  | false => exact hb pins s1 σ H1 Q I1 q1
end
end L2

namespace L2
open PySem PySem.Spec PyProof.Rows

/-! ### a list, a tuple that is read: tracked, frozen, or an object of the module -/
def SqL (K : PySem.W.Frag) (H : Hp) (a : Addr) (xs : List V) : Prop :=
  Rd H a (.lst xs) ∨
    ∃ (o : Obj) (its : Array Value) (n : Nat), K.lookup a = some o ∧ o.cls = .type "list" ∧ o.dict = none ∧ o.data = .seq its n ∧ its.size ≤ sizeLine ∧ Vals xs its.toList
def SqT (K : PySem.W.Frag) (H : Hp) (a : Addr) (xs : List V) : Prop :=
  Rd H a (.tup xs) ∨
    ∃ (o : Obj) (its : Array Value) (n : Nat), K.lookup a = some o ∧ o.cls = .type "tuple" ∧ o.data = .seq its n ∧ its.size ≤ sizeLine ∧ Vals xs its.toList
def absV : Value → Option V
  | .none => some .non
  | .bool b => some (.bl b)
  | .int i _ => some (.int i)
  | .str x _ => some (.str x)
  | .bytes b _ => some (.byt b)
  | .float b _ => some (.flt b)
  | .ref a => some (.ref a)
  | .type n => some (.ty n)
  | _ => none
theorem RelV.abs {x : V} {u : Value} (r : RelV x u) : absV u = some x := by
  cases x with
  | non => cases r; rfl
  | bl _ => cases r; rfl
  | int _ => obtain ⟨t, rfl⟩ := r; rfl
  | str _ => obtain ⟨t, rfl⟩ := r; rfl
  | byt _ => obtain ⟨t, rfl⟩ := r; rfl
  | flt _ => obtain ⟨t, rfl⟩ := r; rfl
  | ref _ => cases r; rfl
  | ty _ => cases r; rfl
theorem RelV.inj {x y : V} {u : Value} (r : RelV x u) (q : RelV y u) : x = y := Option.some.inj (r.abs.symm.trans q.abs)
theorem Vals.inj : ∀ {xs ys : List V} {us : List Value}, Vals xs us → Vals ys us → xs = ys
  | _, _, _, .nil, .nil => rfl
  | _, _, _, .cons r t, .cons r' t' => by rw [r.inj r', Vals.inj t t']
section
variable {X : Cx} {pins : List (Addr × Obj)} {σ : St} {H : Hp} {s : Shared} {a : Addr} {xs ys : List V}
theorem SqL.of {K : PySem.W.Frag} (h : H a = some (.lst xs)) : SqL K H a xs := .inl (.inl h)
theorem SqT.of {K : PySem.W.Frag} (h : H a = some (.tup xs)) : SqT K H a xs := .inl (.inl h)
theorem Inv.list (I : Inv X pins σ H s) (h : SqL X.K H a xs) : ∃ its : List Value, Vals xs its ∧ PlainL s.heap a its.toArray ∧ xs.length ≤ sizeLine := by
  rcases h with h | ⟨o, its, n, hk, hc, hd, hs, hz, r⟩
  · obtain ⟨z, its, n, r, e⟩ := h.ok I.hok
    exact ⟨its, r, ⟨_, n, e, rfl, rfl, rfl⟩, z⟩
  · refine ⟨its.toList, r, ⟨o, n, I.kIn a o hk, hc, hd, by simpa using hs⟩, ?_⟩
    have e := r.length
    simp only [Array.length_toList] at e
    omega
theorem Inv.tuple (I : Inv X pins σ H s) (h : SqT X.K H a xs) : ∃ its : List Value, Vals xs its ∧ IsTup s.heap a its.toArray ∧ xs.length ≤ sizeLine := by
  rcases h with h | ⟨o, its, n, hk, hc, hs, hz, r⟩
  · obtain ⟨z, its, r, p⟩ := h.ok I.hok
    exact ⟨its, r, p, z⟩
  · refine ⟨its.toList, r, ⟨o, I.kIn a o hk, hc, n, by simpa using hs⟩, ?_⟩
    have e := r.length
    simp only [Array.length_toList] at e
    omega
theorem Inv.list_inj (I : Inv X pins σ H s) (h : SqL X.K H a xs) (h' : SqL X.K H a ys) : xs = ys := by
  obtain ⟨its, r, ⟨o, n, e, _, _, d⟩, _⟩ := I.list h
  obtain ⟨its', r', ⟨o', n', e', _, _, d'⟩, _⟩ := I.list h'
  rw [e] at e'; cases e'
  rw [d] at d'
  injection d' with d1 _
  have : its = its' := by simpa using congrArg Array.toList d1
  subst this
  exact r.inj r'
theorem Inv.tuple_inj (I : Inv X pins σ H s) (h : SqT X.K H a xs) (h' : SqT X.K H a ys) : xs = ys := by
  obtain ⟨its, r, ⟨o, e, _, n, d⟩, _⟩ := I.tuple h
  obtain ⟨its', r', ⟨o', e', _, n', d'⟩, _⟩ := I.tuple h'
  rw [e] at e'; cases e'
  rw [d] at d'
  injection d' with d1 _
  have : its = its' := by simpa using congrArg Array.toList d1
  subst this
  exact r.inj r'
end

/-! ### another wish about exceptions -/
abbrev Cx.wish (X : Cx) (E : Value → Shared → Prop) : Cx := { X with xe := E }
/-- no exception leaves -/
abbrev Cx.nox (X : Cx) : Cx := X.wish fun _ _ => False
theorem Cx.Ok.wish {X : Cx} (ok : X.Ok) (E : Value → Shared → Prop) : (X.wish E).Ok :=
  ⟨ok.mod, ok.kind, ok.glob, ok.blt, ok.above, ok.inj, ok.has, ok.cab, ok.hd, ok.frames, ok.stk, ok.exf, ok.bs, ok.bsz, ok.noex, ok.exfs, ok.funs, ok.frf⟩
theorem Cx.Ok.unwish {X : Cx} {E : Value → Shared → Prop} (ok : (X.wish E).Ok) : X.Ok :=
  ⟨ok.mod, ok.kind, ok.glob, ok.blt, ok.above, ok.inj, ok.has, ok.cab, ok.hd, ok.frames, ok.stk, ok.exf, ok.bs, ok.bsz, ok.noex, ok.exfs, ok.funs, ok.frf⟩
section
variable {X : Cx} {pins : List (Addr × Obj)} {σ : St} {H : Hp} {s : Shared} {E : Value → Shared → Prop}
theorem Inv.wish (I : Inv X pins σ H s) (E : Value → Shared → Prop) : Inv (X.wish E) pins σ H s := ⟨I.ok.wish E, I.os, I.bare, I.base, I.loc, I.cell, I.free, I.freeC, I.pin, I.hok, I.len⟩
theorem Inv.unwish (I : Inv (X.wish E) pins σ H s) : Inv X pins σ H s := ⟨I.ok.unwish, I.os, I.bare, I.base, I.loc, I.cell, I.free, I.freeC, I.pin, I.hok, I.len⟩
theorem SP.unwish {D : Ends} {f : Flow} {s' : Shared} (h : SP (X.wish E) pins D f s') : SP X pins D f s' := by
  cases f with
  | next => obtain ⟨σ', H', I, q⟩ := h; exact ⟨σ', H', I.unwish, q⟩
  | brk => obtain ⟨σ', H', I, q⟩ := h; exact ⟨σ', H', I.unwish, q⟩
  | cont => obtain ⟨σ', H', I, q⟩ := h; exact ⟨σ', H', I.unwish, q⟩
  | ret u => obtain ⟨v, σ', H', I, r, q⟩ := h; exact ⟨v, σ', H', I.unwish, r, q⟩
theorem PSs.nox {st : List Stmt} {t : TS} (h : PSs X.nox st t) : PSs X st t := fun pins s σ H D I hw =>
  wpAny_mono (h pins s σ H D (I.wish _) hw) (fun _ _ q => q.unwish) fun _ _ z => False.elim z
end

/-! ### blocks and small statements -/
section
variable {X : Cx} {st : Stmt} {rest : List Stmt} {t u : TS} {e : Expr} {te : TE} {pos : Pos}
def tNext : TS := fun D σ H => D.nx σ H
def tSeq (t u : TS) : TS := fun D σ H => t { D with nx := u D } σ H
theorem pss_nil : PSs X [] tNext := fun _ _ σ H _ I h => wpAny_execs_nil ⟨σ, H, I, h⟩
theorem pss_cons (h1 : PS X st t) (h2 : PSs X rest u) : PSs X (st :: rest) (tSeq t u) := by
  intro pins s σ H D I h
  refine wpAny_execs_cons (thn (h1 pins s σ H { D with nx := u D } I h) fun f s1 q => ?_)
  cases f with
  | next =>
    obtain ⟨σ', H', I', q⟩ := q
    exact h2 pins s1 σ' H' D I' q
  | ret v => exact q
  | brk => exact q
  | cont => exact q
theorem pss_one (h1 : PS X st t) : PSs X [st] t := by
  intro pins s σ H D I h
  refine wpAny_execs_cons (thn (h1 pins s σ H D I h) fun f s1 q => ?_)
  cases f with
  | next => exact wpAny_execs_nil q
  | ret v => exact q
  | brk => exact q
  | cont => exact q
def tBreak : TS := fun D σ H => D.bk σ H
def tCont : TS := fun D σ H => D.ct σ H
/-- in a def's body nothing is shown -/
theorem Inv.quiet {pins : List (Addr × Obj)} {σ : St} {H : Hp} {s : Shared} (I : Inv X pins σ H s) : interactive X.env = false := by simp [interactive, I.ok.kind]
/-- an expression whose value is dropped -/
def tDrop (te : TE) : TS := fun D σ H => te σ H fun _ H1 => D.nx σ H1
theorem ps_expr (he : PE X e te) (hs : swapsWith e none pos.line X.env = pure false := by rfl) : PS X (.Expr e pos) (tDrop te) := by
  intro pins s σ H D I h
  exact wpAny_Expr_any (thn (he pins s σ H _ I h) fun v s1 ⟨x, H1, I1, r1, q1⟩ => ⟨σ, H1, I1, q1⟩) I.quiet hs
def tRet (te : TE) : TS := fun D σ H => te σ H D.rt
theorem ps_ret (he : PE X e te) : PS X (.Return (some e) pos) (tRet te) := by
  intro pins s σ H D I h
  exact wpAny_Return_some (thn (he pins s σ H _ I h) fun v s1 ⟨x, H1, I1, r1, q1⟩ => ⟨x, σ, H1, I1, r1, q1⟩)
def tRetN : TS := fun D _ H => D.rt .non H
def tIfS (c : TT) (t u : TS) : TS := fun D σ H => c σ H fun b H1 => if b = true then t D σ H1 else u D σ H1
theorem ps_if {c : Expr} {a b : List Stmt} {tc : TT} (hc : PT X c tc) (ha : PSs X a t) (hb : PSs X b u) : PS X (.If c a b pos) (tIfS tc t u) := by
  intro pins s σ H D I h
  refine wpAny_If (thn (hc pins s σ H _ I h) fun d s1 ⟨H1, I1, q1⟩ => ?_)
  cases d with
  | true => exact ha pins s1 σ H1 D I1 q1
  | false => exact hb pins s1 σ H1 D I1 q1
/-- code that the proof never comes to -/
def tNever : TS := fun _ _ _ => False
end

/-! ### targets -/
abbrev TG := V → St → Hp → (St → Hp → Prop) → Prop
abbrev TGs := List V → St → Hp → (St → Hp → Prop) → Prop
def PG (X : Cx) (target : Expr) (t : TG) : Prop :=
  ∀ (pins : List (Addr × Obj)) (s : Shared) (σ : St) (H : Hp) (v : V) (u : Value) (Q : St → Hp → Prop), Inv X pins σ H s → RelV v u → t v σ H Q →
    wpAny (model X.prog X.w) X.A (assign target X.env u) (fun _ s' => ∃ σ' H', Inv X pins σ' H' s' ∧ Q σ' H') X.xe s
/-- several targets, one after another -/
def PGs (X : Cx) (ts : List Expr) (t : TGs) : Prop :=
  ∀ (pins : List (Addr × Obj)) (s : Shared) (σ : St) (H : Hp) (vs : List V) (us : List Value) (Q : St → Hp → Prop), Inv X pins σ H s → Vals vs us → t vs σ H Q →
    wpAny (model X.prog X.w) X.A (assignInOrder ((assignEach ts X.env).map (·.2)) us) (fun _ s' => ∃ σ' H', Inv X pins σ' H' s' ∧ Q σ' H') X.xe s
/-- o[i] = v, by values -/
abbrev TSet := V → V → V → Hp → (Hp → Prop) → Prop
def PSet (X : Cx) (t : TSet) : Prop :=
  ∀ (pins : List (Addr × Obj)) (s : Shared) (σ : St) (H : Hp) (o i v : V) (ov iv u : Value) (Q : Hp → Prop), Inv X pins σ H s → RelV o ov → RelV i iv → RelV v u → t o i v H Q →
    wpAny (model X.prog X.w) X.A (setItem ov iv u) (fun _ s' => ∃ H', Inv X pins σ H' s' ∧ Q H') X.xe s
/-- a op= b, by values -/
abbrev TIp := V → V → Hp → VK → Prop
def PIp (X : Cx) (op : Operator) (t : TIp) : Prop :=
  ∀ (pins : List (Addr × Obj)) (s : Shared) (σ : St) (H : Hp) (x y : V) (v u : Value) (Q : VK), Inv X pins σ H s → RelV x v → RelV y u → t x y H Q →
    wpAny (model X.prog X.w) X.A (inplaceOp op v u) (EP X pins σ Q) X.xe s
section
variable {X : Cx} {pos : Pos}
def gName (i : Nat) : TG := fun v σ H Q => Q (σ.set i (some v)) H
theorem pg_name {i : Nat} {x : Str} (hN : X.N.Nodup) (hi : X.N[i]? = some x) (hx : Loc X.env.scope x) (hf : X.fn x = true ∨ X.env.scope.names.lookup x = some .local := by first | exact .inl rfl | exact .inr rfl | assumption) : PG X (.Name x pos) (gName i) := by
  intro pins s σ H v u Q I r h
  exact wpAny_assign_Name (store_ok I hN hi hx r (fun s' I' => ⟨_, H, I', h⟩) hf)
def gNil : TGs := fun vs σ H Q => vs = [] ∧ Q σ H
def gCons (t : TG) (u : TGs) : TGs := fun vs σ H Q => ∃ v r, vs = v :: r ∧ t v σ H fun σ' H' => u r σ' H' Q
theorem pgs_nil : PGs X [] gNil := by
  intro pins s σ H vs us Q I r h
  obtain ⟨e, h⟩ := h
  subst e
  cases r
  exact assignInOrder_nil ⟨σ, H, I, h⟩
theorem pgs_cons {e : Expr} {es : List Expr} {t : TG} {u : TGs} (h1 : PG X e t) (h2 : PGs X es u)
    (hs : (assignEach (e :: es) X.env).map (·.2) = assign e X.env :: (assignEach es X.env).map (·.2) := by rfl) : PGs X (e :: es) (gCons t u) := by
  intro pins s σ H vs us Q I r h
  obtain ⟨v, vr, e1, h⟩ := h
  subst e1
  cases r with
  | cons r rr =>
    rw [hs]
    refine assignInOrder_cons (thn (h1 pins s σ H _ _ _ I r h) fun _ s1 ⟨σ1, H1, I1, q1⟩ => ?_)
    exact h2 pins s1 σ1 H1 _ _ Q I1 rr q1
/-- (a, b, ..) = a tuple of that length -/
def gTup (K : PySem.W.Frag) (n : Nat) (t : TGs) : TG := fun v σ H Q => ∃ a xs, v = .ref a ∧ SqT K H a xs ∧ xs.length = n ∧ t xs σ H Q
theorem pg_tup {es : List Expr} {k : Nat} {t : TGs} {n : Nat} (hc : X.calm = true) (h : PGs X es t)
    (hn : (assignEach es X.env).length = n := by rfl) (hst : (assignEach es X.env).findIdx? (·.1) = none := by rfl) : PG X (.Tuple es k pos) (gTup X.K n t) := by
  intro pins s σ H v u Q I r hw
  obtain ⟨a, xs, e1, hq, hl, hw⟩ := hw
  subst e1
  cases r
  obtain ⟨its, rv, ht, hz⟩ := I.tuple hq
  refine assign_Tuple_tuple (I.ok.hd hc) ht (by simp [hn, ← hl, rv.length]) hst fun h' hx => ?_
  have I1 : Inv X pins σ H { s with heap := h' } := I.kept (t' := s.toks) fun b o e => hx b o (Nat.ne_of_lt (Heap.lt_size e)) e
  exact h pins _ σ H xs _ Q I1 (by simpa using rv) hw
/-- o[i] = .. -/
def gSub (to ti : TE) (t : TSet) : TG := fun v σ H Q => to σ H fun o H1 => ti σ H1 fun i H2 => t o i v H2 fun H3 => Q σ H3
/-- target = value -/
def tAsg (te : TE) (g : TG) : TS := fun D σ H => te σ H fun x H1 => g x σ H1 D.nx
/-- name = value -/
theorem ps_set {i : Nat} {x : Str} {e : Expr} {te : TE} {pos' : Pos} (hN : X.N.Nodup) (hi : X.N[i]? = some x) (hx : Loc X.env.scope x) (he : PE X e te) (hs : swapsWith e (some (.Name x pos')) pos.line X.env = pure false := by rfl) (hf : X.fn x = true ∨ X.env.scope.names.lookup x = some .local := by first | exact .inl rfl | exact .inr rfl | assumption) :
    PS X (.Assign [.Name x pos'] e pos) (tAsg te (gName i)) := by
  intro pins s σ H D I h
  refine wpAny_Assign_Name (thn (he pins s σ H _ I h) fun v s1 ⟨y, H1, I1, r1, q1⟩ => ?_) hs
  exact store_ok I1 hN hi hx r1 (fun s2 I2 => ⟨_, H1, I2, q1⟩) hf
/-- a, b = x, y with plain local names: stored from the right; the pair itself is not tracked (the opening rows as in PyProof/Rows/TupAssign.lean:23) -/
def tPar (i j : Nat) (ta : TA) : TS := fun D σ H => ta σ H fun vs H1 => ∃ v w, vs = [v, w] ∧ D.nx ((σ.set i (some v)).set j (some w)) H1
/-- name op= e -/
def tAug (i : Nat) (te : TE) (ti : TIp) : TS := fun D σ H => ∃ x, σ[i]? = some (some x) ∧ te σ H fun y H1 => ti x y H1 fun z H2 => D.nx (σ.set i (some z)) H2
theorem ps_aug {i : Nat} {x : Str} {e : Expr} {te : TE} {op : Operator} {ti : TIp} {pos' : Pos} (hN : X.N.Nodup) (hi : X.N[i]? = some x) (hx : Loc X.env.scope x) (he : PE X e te) (ho : PIp X op ti) (hf : X.fn x = true ∨ X.env.scope.names.lookup x = some .local := by first | exact .inl rfl | exact .inr rfl | assumption) :
    PS X (.AugAssign (.Name x pos') op e pos) (tAug i te ti) := by
  intro pins s σ H D I h
  obtain ⟨v, e1, h⟩ := h
  obtain ⟨m, hn, hl⟩ := I.loc
  have vis : Vis X.env.scope x := by rcases hx with k | k; exact .inl k; exact .inr (.inl k)
  obtain ⟨u, r, l⟩ := hl i x v hi e1 vis
  refine wpAny_AugAssign_Name ?_
  have go : wpAny (model X.prog X.w) X.A (eval e X.env) (fun w s₂ => wpAny (model X.prog X.w) X.A (inplaceOp op u w) (fun r s₃ => wpAny (model X.prog X.w) X.A (storeName X.env x r) (fun _ => SP X pins D .next) X.xe s₃) X.xe s₂) X.xe s := by
    refine thn (he pins s σ H _ I h) fun w s1 ⟨y, H1, I1, r1, q1⟩ => ?_
    refine thn (ho pins s1 σ H1 v y u w _ I1 r r1 q1) fun z s2 ⟨zv, H2, I2, r2, q2⟩ => ?_
    exact store_ok I2 hN hi hx r2 (fun s3 I3 => ⟨_, H2, I3, q2⟩) hf
  rcases l with ⟨hk, hm⟩ | ⟨hk, c, hc, hcell⟩
  · exact wpAny_loadName_local I.ok.kind hk hn hm go
  · rcases hk with hk | hk
    · exact wpAny_loadName_cell I.ok.kind hk hc hcell go
    · rcases hx with k | k
      · have : X.env.scope.names.lookup x = some .free := hk
        rw [k] at this; cases this
      · have : X.env.scope.names.lookup x = some .free := hk
        rw [k] at this; cases this
/-- o[i] op= e -/
def tAugS (to ti te : TE) (tget : V → V → Hp → VK → Prop) (tip : TIp) (tset : TSet) : TS := fun D σ H => to σ H fun o H1 => ti σ H1 fun i H2 => tget o i H2 fun x H3 => te σ H3 fun y H4 => tip x y H4 fun z H5 => tset o i z H5 fun H6 => D.nx σ H6
/-- o[i], by values -/
def PGet (X : Cx) (t : V → V → Hp → VK → Prop) : Prop :=
  ∀ (pins : List (Addr × Obj)) (s : Shared) (σ : St) (H : Hp) (o i : V) (ov iv : Value) (Q : VK), Inv X pins σ H s → RelV o ov → RelV i iv → t o i H Q →
    wpAny (model X.prog X.w) X.A (getItem ov iv) (EP X pins σ Q) X.xe s
/-- ints -/
def ipI (f : Int → Int → Int) : TIp := fun x y H Q => ∃ i j, x = .int i ∧ y = .int j ∧ Q (.int (f i j)) H
theorem ip_add : PIp X .Add (ipI fun i j => i + j) := by
  intro pins s σ H x y v u Q I r1 r2 h
  obtain ⟨i, j, e1, e2, q⟩ := h
  subst e1; subst e2
  obtain ⟨t, rfl⟩ := r1
  obtain ⟨t', rfl⟩ := r2
  exact iadd_int ⟨.int _, H, I.tok _, ⟨_, rfl⟩, q⟩
end

/-! ### while -/
section
variable {X : Cx} {pos : Pos}
/-- the invariant W with its measure -/
def tWhile (c : TT) (tb : TS) : TS := fun D σ H => ∃ W : Nat → St → Hp → Prop, (∃ m, W m σ H) ∧ ∀ m σ H, W m σ H →
  c σ H fun b H1 => if b = true then ∃ N : St → Hp → Prop, (∀ σ' H', N σ' H' → ∃ m', m' < m ∧ W m' σ' H') ∧ tb { D with nx := N, ct := N, bk := D.nx } σ H1 else D.nx σ H1
theorem ps_while {c : Expr} {body : List Stmt} {tc : TT} {tb : TS} (hp : PassesOwn (model X.prog X.w) X.A X.env X.xe) (hc : PT X c tc) (hb : PSs X body tb) : PS X (.While c body [] pos) (tWhile tc tb) := by
  intro pins s σ H D I h
  obtain ⟨W, ⟨m0, w0⟩, turn⟩ := h
  refine wpAny_While (codeAny_whileLoop (fun n s' => ∃ σ' H', Inv X pins σ' H' s' ∧ W n σ' H') ?_ m0 ⟨σ, H, I, w0⟩)
  rintro n s1 ⟨σ1, H1, I1, w1⟩
  refine wpAny_passesOwn hp (thn (hc pins s1 σ1 H1 _ I1 (turn n σ1 H1 w1)) fun b s2 ⟨H2, I2, q2⟩ => ?_)
  cases b with
  | true =>
    obtain ⟨N, hN, q2⟩ := q2
    rw [if_pos rfl]
    refine wpAny_passesOwn hp (thn (hb pins s2 σ1 H2 _ I2 q2) fun f s3 q3 => ?_)
    cases f with
    | next =>
      obtain ⟨σ3, H3, I3, n3⟩ := q3
      obtain ⟨m', hm, w3⟩ := hN σ3 H3 n3
      exact ⟨m', hm, σ3, H3, I3, w3⟩
    | cont =>
      obtain ⟨σ3, H3, I3, n3⟩ := q3
      obtain ⟨m', hm, w3⟩ := hN σ3 H3 n3
      exact ⟨m', hm, σ3, H3, I3, w3⟩
    | brk => exact q3
    | ret v => exact q3
  | false =>
    rw [if_neg Bool.false_ne_true]
    exact wpAny_execs_nil ⟨σ1, H2, I2, q2⟩
end

/-! ### what a loop or a comprehension walks -/
/-- at turn i: it yields x (the heap may grow), or it stops -/
structure It where
  go : Nat → Hp → Prop
  yld : Nat → Hp → V → Hp → Prop
  stop : Nat → Hp → Prop
/-- the iterator's own objects may turn: they are not the frame's, not pinned, younger than the entry (or a comprehension's own) -/
def FpOk (X : Cx) (pins : List (Addr × Obj)) (H : Hp) (b : Addr) : Prop :=
  H b = none ∧ b ≠ X.env.locals ∧ b ∉ X.fs ∧ (b ∈ X.ex ∨ X.s_0.heap.objs.size ≤ b) ∧ (∀ x c, X.env.cells.lookup x = some c → c ≠ b) ∧ ∀ p ∈ X.pn ++ pins, p.1 ≠ b
theorem Inv.fpOk {X : Cx} {pins : List (Addr × Obj)} {σ : St} {H H' : Hp} {s : Shared} {b : Addr} (I : Inv X pins σ H s) (hb : s.heap.objs.size ≤ b) (hn : H' b = none) : FpOk X pins H' b := by
  refine ⟨hn, Nat.ne_of_gt (Nat.lt_of_lt_of_le I.lt hb), I.nofs hb, .inr (Nat.le_trans I.sz hb), fun x c e z => ?_, fun p hp z => ?_⟩
  · obtain ⟨v, q⟩ := I.cell x c e
    exact absurd (Nat.lt_of_lt_of_le q.lt (by rw [z]; exact hb)) (Nat.lt_irrefl _)
  · exact absurd (Nat.lt_of_lt_of_le (Heap.lt_size (I.pin p hp).1) (by rw [z]; exact hb)) (Nat.lt_irrefl _)
structure Turn (P : Program) (w : World) (K : PySem.W.Frag) (tg : Expr) (J : It) (fp : List Addr) (it : Addr) (tn : Nat → Heap → Prop) : Prop where
  mem : it ∈ fp
  obj : ∀ i h, tn i h → ∀ b ∈ fp, ∃ o, h.get? b = some o ∧ ∀ v, o.data ≠ .cell v
  keep : ∀ i h h', tn i h → (∀ b ∈ fp, ∀ o, h.get? b = some o → h'.get? b = some o) → tn i h'
  item : ∀ (X : Cx), X.prog = P → X.w = w → X.K = K → X.calm = true → ∀ (i : Nat) (pins : List (Addr × Obj)) (s : Shared) (σ : St) (H : Hp) (E : Value → Shared → Prop), Inv X pins σ H s → (∀ b ∈ fp, FpOk X pins H b) → tn i s.heap → J.go i H →
    wpAny (model P w) X.A (pyNext (.ref it)) (fun r s1 => ∃ u, r = some u ∧
      wpAny (model P w) X.A (letOwnedTupleGo tg (.ref it) u) (fun _ s2 => ∃ x H', Inv X pins σ H' s2 ∧ RelV x u ∧ J.yld i H x H' ∧ tn (i + 1) s2.heap ∧ ∀ b ∈ fp, H' b = none) E s1) E s
  done : ∀ (X : Cx), X.prog = P → X.w = w → X.K = K → X.calm = true → ∀ (i : Nat) (pins : List (Addr × Obj)) (s : Shared) (σ : St) (H : Hp) (E : Value → Shared → Prop), Inv X pins σ H s → (∀ b ∈ fp, FpOk X pins H b) → tn i s.heap → J.stop i H →
    wpAny (model P w) X.A (pyNext (.ref it)) (fun r s1 => r = none ∧ Inv X pins σ H s1) E s
  self : ∀ (A : Around) (i : Nat) (s : Shared) (Q : Value → Shared → Prop) (E : Value → Shared → Prop), tn i s.heap → Q (.ref it) s → wpAny (model P w) A (pyIter (.ref it)) Q E s
abbrev TI := St → Hp → (It → Hp → Prop) → Prop
/-- an iterator has come -/
def PIE (X : Cx) (pins : List (Addr × Obj)) (σ : St) (tg : Expr) (R : It → Hp → Prop) (itv : Value) (s2 : Shared) : Prop :=
  ∃ (it : Addr) (fp : List Addr) (tn : Nat → Heap → Prop) (J : It) (H' : Hp), itv = .ref it ∧ Inv X pins σ H' s2 ∧ Turn X.prog X.w X.K tg J fp it tn ∧ tn 0 s2.heap ∧ (∀ b ∈ fp, FpOk X pins H' b) ∧ R J H'
def PI (X : Cx) (tg iter : Expr) (wi : TI) : Prop :=
  ∀ (pins : List (Addr × Obj)) (s : Shared) (σ : St) (H : Hp) (R : It → Hp → Prop), Inv X pins σ H s → wi σ H R →
    wpAny (model X.prog X.w) X.A (eval iter X.env) (fun v s1 => wpAny (model X.prog X.w) X.A (pyIter v) (PIE X pins σ tg R) X.xe s1) X.xe s

/-- the step ahead of the store is nothing for an iterator that keeps no tuple -/
theorem go_of {M : Model} {A : Around} {E : Value → Shared → Prop} {s : Shared} {tg : Expr} {it : Addr} {u : Value} {o : Obj} {n : String} {vs : Array Value} {Q : Unit → Shared → Prop} (ho : s.heap.get? it = some o) (hc : o.cls = .type n) (hd : o.data = .fields vs)
    (hn : ["enumerate", "zip", "dict_itemiterator", "dict_reverseitemiterator", "odict_iterator", "itertools.zip_longest", "itertools.pairwise"].contains n = false) (hQ : Q () s) : wpAny M A (letOwnedTupleGo tg (.ref it) u) Q E s := by
  unfold letOwnedTupleGo
  cases tg <;> first
    | exact wpAny_pure hQ
    | (cases u <;> first
        | exact wpAny_pure hQ
        | (refine wpAny_bind (wpAny_load ho ?_)
           rw [hc, hd]
           show wpAny M A (if (["enumerate", "zip", "dict_itemiterator", "dict_reverseitemiterator", "odict_iterator", "itertools.zip_longest", "itertools.pairwise"].contains n && vs[0]? == some (rawInt _)) = true then _ else _) Q E s
           rw [if_neg (by intro h; rw [hn, Bool.false_and] at h; cases h)]
           exact wpAny_pure hQ))

/-- the list at a, as it stands at each turn (a loop may append to it) -/
def Itl (K : PySem.W.Frag) (a : Addr) : It :=
  ⟨fun i H => ∃ xs x, SqL K H a xs ∧ xs[i]? = some x, fun i H x H' => H' = H ∧ ∀ xs, SqL K H a xs → xs[i]? = some x, fun i H => ∃ xs, SqL K H a xs ∧ xs.length ≤ i⟩
def Itt (K : PySem.W.Frag) (a : Addr) : It :=
  ⟨fun i H => ∃ xs x, SqT K H a xs ∧ xs[i]? = some x, fun i H x H' => H' = H ∧ ∀ xs, SqT K H a xs → xs[i]? = some x, fun i H => ∃ xs, SqT K H a xs ∧ xs.length ≤ i⟩
/-- lo, lo + 1, .. (n of them) -/
def Itr (lo : Int) (n : Nat) : It := ⟨fun i _ => i < n, fun i H x H' => H' = H ∧ x = .int (lo + i), fun i _ => n ≤ i⟩
theorem turn_list {P : Program} {w : World} {K : PySem.W.Frag} {tg : Expr} (a it : Addr) : Turn P w K tg (Itl K a) [it] it (fun i h => h.IsListIter it a i) where
  mem := by simp
  obj := fun i h st b hb => by
    have e : b = it := by simpa using hb
    subst e
    obtain ⟨o, e, c, d⟩ := st
    exact ⟨o, e, fun v z => by rw [d] at z; cases z⟩
  keep := fun i h h' st k => st.at fun o e => k it (by simp) o e
  item := by
    intro X hP hw hK hc i pins s σ H E I hf st hg
    subst hP hw hK
    obtain ⟨xs, x, hq, hx⟩ := hg
    obtain ⟨its, rv, p, hz⟩ := I.list hq
    obtain ⟨u, hu, ru⟩ := rv.get hx
    obtain ⟨f0, f1, f2, f3, f4, f5⟩ := hf it (by simp)
    refine wpAny_pyNext_list_item st p.isList (x := u) (by simpa using hu) fun h' st' sb => ?_
    have I1 : Inv X pins σ H { s with heap := h' } := I.turned (t' := s.toks) (fun b o hb e => (sb.2 b hb).trans e) f0 f1 f3 f4 f5
    obtain ⟨o, e, c, d⟩ := id st'
    exact ⟨u, rfl, go_of (s := { s with heap := h' }) e c d (by decide) ⟨x, H, I1, ru, ⟨rfl, fun ys hy => by rw [I.list_inj hy hq]; exact hx⟩, st', fun b hb => (hf b hb).1⟩⟩
  done := by
    intro X hP hw hK hc i pins s σ H E I hf st hg
    subst hP hw hK
    obtain ⟨xs, hq, hx⟩ := hg
    obtain ⟨its, rv, p, hz⟩ := I.list hq
    obtain ⟨f0, f1, f2, f3, f4, f5⟩ := hf it (by simp)
    have hl := rv.length
    exact wpAny_pyNext_list_end (I.ok.hd hc) st p.isList (by simp; omega) fun h' eb => ⟨rfl, I.turned (t' := s.toks) (fun b o hb e => eb b o hb e) f0 f1 f3 f4 f5⟩
  self := fun _ _ _ _ _ st h => wpAny_pyIter_listiter st h
theorem turn_tuple {P : Program} {w : World} {K : PySem.W.Frag} {tg : Expr} (a it : Addr) : Turn P w K tg (Itt K a) [it] it (fun i h => h.IsTupleIter it a i) where
  mem := by simp
  obj := fun i h st b hb => by
    have e : b = it := by simpa using hb
    subst e
    obtain ⟨o, e, c, d⟩ := st
    exact ⟨o, e, fun v z => by rw [d] at z; cases z⟩
  keep := fun i h h' st k => st.at fun o e => k it (by simp) o e
  item := by
    intro X hP hw hK hc i pins s σ H E I hf st hg
    subst hP hw hK
    obtain ⟨xs, x, hq, hx⟩ := hg
    obtain ⟨its, rv, p, hz⟩ := I.tuple hq
    obtain ⟨u, hu, ru⟩ := rv.get hx
    obtain ⟨f0, f1, f2, f3, f4, f5⟩ := hf it (by simp)
    refine wpAny_pyNext_tuple_item st (show s.heap.IsTuple a its.toArray from p) (x := u) (by simpa using hu) fun h' st' sb => ?_
    have I1 : Inv X pins σ H { s with heap := h' } := I.turned (t' := s.toks) (fun b o hb e => (sb.2 b hb).trans e) f0 f1 f3 f4 f5
    obtain ⟨o, e, c, d⟩ := id st'
    exact ⟨u, rfl, go_of (s := { s with heap := h' }) e c d (by decide) ⟨x, H, I1, ru, ⟨rfl, fun ys hy => by rw [I.tuple_inj hy hq]; exact hx⟩, st', fun b hb => (hf b hb).1⟩⟩
  done := by
    intro X hP hw hK hc i pins s σ H E I hf st hg
    subst hP hw hK
    obtain ⟨xs, hq, hx⟩ := hg
    obtain ⟨its, rv, p, hz⟩ := I.tuple hq
    obtain ⟨f0, f1, f2, f3, f4, f5⟩ := hf it (by simp)
    have hl := rv.length
    exact wpAny_pyNext_tuple_end (I.ok.hd hc) st (show s.heap.IsTuple a its.toArray from p) (by simp; omega) fun h' eb => ⟨rfl, I.turned (t' := s.toks) (fun b o hb e => eb b o hb e) f0 f1 f3 f4 f5⟩
  self := fun _ _ _ _ _ st h => wpAny_pyIter_tupleiter st h
theorem turn_range {P : Program} {w : World} {K : PySem.W.Frag} {tg : Expr} (it : Addr) (lo : Int) (n : Nat) : Turn P w K tg (Itr lo n) [it] it (fun i h => IsRangeIter h it (lo + (i : Nat) * 1) ((n : Int) - (i : Nat)) 1) where
  mem := by simp
  obj := fun i h st b hb => by
    have e : b = it := by simpa using hb
    subst e
    exact ⟨_, st, fun v z => by
      have z' : Data.fields _ = Data.cell v := z
      cases z'⟩
  keep := fun i h h' st k => k it (by simp) _ st
  item := by
    intro X hP hw hK hc i pins s σ H E I hf st hg
    subst hP hw hK
    obtain ⟨f0, f1, f2, f3, f4, f5⟩ := hf it (by simp)
    have W := Walks.range (prog := X.prog) (w := X.w) (I.ok.hd hc) it lo 1 n
    refine W.item i s _ _ hg st fun v h' tk hv st' kk => ?_
    obtain ⟨t, rfl⟩ := hv
    have I1 : Inv X pins σ H { s with heap := h', toks := tk } := I.turned (fun b o hb e => kk b o (by simpa using hb) e) f0 f1 f3 f4 f5
    refine ⟨_, rfl, go_of (s := { s with heap := h', toks := tk }) (n := "range_iterator") st' rfl rfl (by decide) ⟨.int (lo + i), H, I1, ⟨t, ?_⟩, ⟨rfl, rfl⟩, st', fun b hb => (hf b hb).1⟩⟩
    rw [Int.mul_one]
  done := by
    intro X hP hw hK hc i pins s σ H E I hf st hg
    subst hP hw hK
    obtain ⟨f0, f1, f2, f3, f4, f5⟩ := hf it (by simp)
    exact wpAny_pyNext_range_end (I.ok.hd hc) st (by have : n ≤ i := hg; omega) fun h' eb => ⟨rfl, I.turned (t' := s.toks) (fun b o hb e => eb b o hb e) f0 f1 f3 f4 f5⟩
  self := fun _ _ _ _ _ st h => wpAny_pyIter_rangeiter st h
end L2

namespace L2
open PySem PySem.Spec PyProof.Rows
section
variable {X : Cx} {tg : Expr}
def iList (K : PySem.W.Frag) (tl : TE) : TI := fun σ H R => tl σ H fun x H1 => ∃ a, x = .ref a ∧ (∃ xs, SqL K H1 a xs) ∧ R (Itl K a) H1
def iTup (K : PySem.W.Frag) (tl : TE) : TI := fun σ H R => tl σ H fun x H1 => ∃ a, x = .ref a ∧ (∃ xs, SqT K H1 a xs) ∧ R (Itt K a) H1
theorem pi_list {l : Expr} {tl : TE} (hl : PE X l tl) : PI X tg l (iList X.K tl) := by
  intro pins s σ H R I h
  refine thn (hl pins s σ H _ I h) fun v s1 ⟨x, H1, I1, r1, q1⟩ => ?_
  obtain ⟨a, e, ⟨xs, hq⟩, q⟩ := q1
  subst e
  cases r1
  obtain ⟨its, rv, p, hz⟩ := I1.list hq
  refine wpAny_pyIter_list p.isList ?_
  refine ⟨s1.heap.objs.size, [s1.heap.objs.size], _, _, H1, rfl, I1.kept (t' := s1.toks) fun b o e => Heap.get?_push_of_some _ e, turn_list a _, ⟨_, Heap.get?_push_size _ rfl, rfl, rfl⟩, fun b hb => ?_, q⟩
  have e : b = s1.heap.objs.size := by simpa using hb
  subst e
  exact I1.fpOk (Nat.le_refl _) (I1.hok.fresh (Nat.le_refl _))
theorem pi_tup {l : Expr} {tl : TE} (hl : PE X l tl) : PI X tg l (iTup X.K tl) := by
  intro pins s σ H R I h
  refine thn (hl pins s σ H _ I h) fun v s1 ⟨x, H1, I1, r1, q1⟩ => ?_
  obtain ⟨a, e, ⟨xs, hq⟩, q⟩ := q1
  subst e
  cases r1
  obtain ⟨its, rv, p, hz⟩ := I1.tuple hq
  refine wpAny_pyIter_tuple (show s1.heap.IsTuple a its.toArray from p) ?_
  refine ⟨s1.heap.objs.size, [s1.heap.objs.size], _, _, H1, rfl, I1.kept (t' := s1.toks) fun b o e => Heap.get?_push_of_some _ e, turn_tuple a _, ⟨_, Heap.get?_push_size _ rfl, rfl, rfl⟩, fun b hb => ?_, q⟩
  have e : b = s1.heap.objs.size := by simpa using hb
  subst e
  exact I1.fpOk (Nat.le_refl _) (I1.hok.fresh (Nat.le_refl _))
/-- a range object just made, walked -/
theorem range_it {pins : List (Addr × Obj)} {σ : St} {H : Hp} {s : Shared} {R : It → Hp → Prop} {E : Value → Shared → Prop} {lo hi : Int} {t u v : Tok} {tk : Nat} (I : Inv X pins σ H s) (h1 : -(2 ^ 62) ≤ lo) (h2 : lo < 2 ^ 62) (h3 : -(2 ^ 62) ≤ hi) (h4 : hi < 2 ^ 62)
    (q : R (Itr lo (hi - lo).toNat) H) : wpAny (model X.prog X.w) X.A (pyIter (.ref s.heap.objs.size)) (PIE X pins σ tg R) E { s with heap := s.heap.push { cls := .type "range", data := .fields #[.int lo t, .int hi u, .int 1 v] }, toks := tk } := by
  refine wpAny_pyIter_range (IsRange.new ..) (small_one h1 h2 h3 h4) ?_
  have I1 : Inv X pins σ H { s with heap := s.heap.push { cls := .type "range", data := .fields #[.int lo t, .int hi u, .int 1 v] }, toks := tk } := I.kept fun b o e => Heap.get?_push_of_some _ e
  refine ⟨(s.heap.push { cls := .type "range", data := .fields #[.int lo t, .int hi u, .int 1 v] }).objs.size, [(s.heap.push { cls := .type "range", data := .fields #[.int lo t, .int hi u, .int 1 v] }).objs.size], _, _, H, rfl,
    I1.kept (t' := tk) fun b o e => Heap.get?_push_of_some _ e, turn_range _ lo (hi - lo).toNat, ?_, fun b hb => ?_, q⟩
  · have e1 : lo + ((0 : Nat) : Int) * 1 = lo := by simp
    have e2 : (((hi - lo).toNat : Nat) : Int) - ((0 : Nat) : Int) = Builtin.Range.rangeSize lo hi 1 := by rw [rangeSize_one]; split <;> omega
    show IsRangeIter _ _ (lo + ((0 : Nat) : Int) * 1) ((((hi - lo).toNat : Nat) : Int) - ((0 : Nat) : Int)) 1
    rw [e1, e2]
    exact Heap.get?_push_size _ rfl
  · have e : b = (s.heap.push { cls := .type "range", data := .fields #[.int lo t, .int hi u, .int 1 v] }).objs.size := by simpa using hb
    subst e
    exact I1.fpOk (Nat.le_refl _) (I1.hok.fresh (Nat.le_refl _))
def iRng1 (ta : TA) : TI := fun σ H R => ta σ H fun vs H1 => ∃ j : Int, vs = [.int j] ∧ -(2 ^ 62) ≤ j ∧ j < 2 ^ 62 ∧ R (Itr 0 j.toNat) H1
def iRng2 (ta : TA) : TI := fun σ H R => ta σ H fun vs H1 => ∃ i j : Int, vs = [.int i, .int j] ∧ (-(2 ^ 62) ≤ i ∧ i < 2 ^ 62 ∧ -(2 ^ 62) ≤ j ∧ j < 2 ^ 62) ∧ R (Itr i (j - i).toNat) H1
theorem pi_range1 {a : Expr} {ta : TA} {p pos : Pos} (hg : Gl X "range") (hm : X.mg "range" = none) (ha : PA X [a] ta) (hs : starEach [a] X.env = [(false, eval a X.env)] := by rfl) : PI X tg (.Call (.Name "range" p) [a] [] pos) (iRng1 ta) := by
  intro pins s σ H R I h
  refine Call_ (ld_blt I hg hm boot_range (PyProof.Rows.callWith_type1 (thn (ha pos pins s σ H _ I h) fun us s1 ⟨vs, H1, I1, r1, q1⟩ => ?_) hs rfl))
  obtain ⟨j, e, q1, q2, q⟩ := q1
  subst e
  cases r1 with
  | cons r rr =>
    cases rr
    obtain ⟨t, rfl⟩ := r
    exact call_range_1 (range_it I1 (by omega) (by omega) q1 q2 (by simpa using q))
theorem pi_range2 {a b : Expr} {ta : TA} {p pos : Pos} (hg : Gl X "range") (hm : X.mg "range" = none) (ha : PA X [a, b] ta) (hs : starEach [a, b] X.env = [(false, eval a X.env), (false, eval b X.env)] := by rfl) (hs2 : starEach [b] X.env = [(false, eval b X.env)] := by rfl) :
    PI X tg (.Call (.Name "range" p) [a, b] [] pos) (iRng2 ta) := by
  intro pins s σ H R I h
  refine Call_ (ld_blt I hg hm boot_range (PyProof.Rows.callWith_type1 (thn (ha pos pins s σ H _ I h) fun us s1 ⟨vs, H1, I1, r1, q1⟩ => ?_) (by rw [hs, hs2]) (by rw [hs2]; rfl)))
  obtain ⟨i, j, e, ⟨q1, q2, q3, q4⟩, q⟩ := q1
  subst e
  cases r1 with
  | cons r rr =>
    cases rr with
    | cons r' rr =>
      cases rr
      obtain ⟨t, rfl⟩ := r
      obtain ⟨t', rfl⟩ := r'
      exact call_range_2 (range_it I1 q1 q2 q3 q4 q)

/-! ### for -/
/-- W: the invariant by the turn and a measure; N: what the body is to reach -/
def tFor (wi : TI) (g : TG) (tb : TS) : TS := fun D σ H => wi σ H fun J H1 => ∃ W : Nat → Nat → St → Hp → Prop, (∃ m, W 0 m σ H1) ∧ ∀ i m σ H, W i m σ H →
  (J.stop i H ∧ D.nx σ H) ∨ (J.go i H ∧ ∃ N : St → Hp → Prop, (∀ σ' H', N σ' H' → ∃ m', m' < m ∧ W (i + 1) m' σ' H') ∧ ∀ x H', J.yld i H x H' → g x σ H' fun σ2 H2 => tb { D with nx := N, ct := N, bk := D.nx } σ2 H2)
/-- the records at fp as they stand -/
def pinsAt (fp : List Addr) (h : Heap) : List (Addr × Obj) := fp.filterMap fun b => (h.get? b).map fun o => (b, o)
theorem mem_pinsAt {fp : List Addr} {h : Heap} {b : Addr} {o : Obj} (hb : b ∈ fp) (e : h.get? b = some o) : (b, o) ∈ pinsAt fp h := List.mem_filterMap.mpr ⟨b, hb, by rw [e]; rfl⟩
theorem of_pinsAt {fp : List Addr} {h : Heap} {p : Addr × Obj} (hp : p ∈ pinsAt fp h) : p.1 ∈ fp ∧ h.get? p.1 = some p.2 := by
  obtain ⟨b, hb, e⟩ := List.mem_filterMap.mp hp
  cases q : h.get? b with
  | none => rw [q] at e; cases e
  | some o =>
    rw [q] at e
    have e' : (b, o) = p := Option.some.inj e
    subst e'
    exact ⟨hb, q⟩
theorem Inv.pinned {pins : List (Addr × Obj)} {σ : St} {H : Hp} {s : Shared} {fp : List Addr} (I : Inv X pins σ H s) (hf : ∀ b ∈ fp, FpOk X pins H b) (ho : ∀ b ∈ fp, ∃ o, s.heap.get? b = some o ∧ ∀ v, o.data ≠ .cell v) : Inv X (pins ++ pinsAt fp s.heap) σ H s :=
  I.pins_of fun p hp => (List.mem_append.mp hp).elim (fun z => I.pin p (List.mem_append_right _ z)) fun z => by
    obtain ⟨hb, e⟩ := of_pinsAt z
    obtain ⟨f0, f1, f2, _⟩ := hf p.1 hb
    obtain ⟨o, e', d⟩ := ho p.1 hb
    rw [e] at e'; cases e'
    exact ⟨e, f0, f1, f2, d⟩
theorem Inv.unpinned {pins pl : List (Addr × Obj)} {σ : St} {H : Hp} {s : Shared} (I : Inv X (pins ++ pl) σ H s) : Inv X pins σ H s := I.pins_of fun p hp => I.pin p (List.mem_append_right _ (List.mem_append_left _ hp))
theorem ps_for {iter : Expr} {body : List Stmt} {wi : TI} {g : TG} {tb : TS} {pos : Pos} (hp : PassesOwn (model X.prog X.w) X.A X.env X.xe) (hc : X.calm = true) (hi : PI X tg iter wi) (hg : PG X tg g) (hb : PSs X body tb)
    (hs : ∀ x, foldedSetIterable iter X.env x = pure x := by intro _; rfl) : PS X (.For tg iter body [] pos) (tFor wi g tb) := by
  intro pins s σ H D I h
  refine wpAny_For (thn (hi pins s σ H _ I h) fun v s1 h1 => thn h1 fun itv s2 h2 => ?_) hs
  obtain ⟨it, fp, tn, J, H2, e, I2, T, st2, f2, W, ⟨m0, w0⟩, turn⟩ := h2
  subst e
  -- what stays true of the iterator's objects through the loop
  have stat : ∀ {H' : Hp}, (∀ b ∈ fp, H' b = none) → ∀ b ∈ fp, FpOk X pins H' b := fun hn b hb => ⟨hn b hb, (f2 b hb).2⟩
  refine codeAny_forLoop_any (fun n s' => ∃ i σ' H', Inv X pins σ' H' s' ∧ tn i s'.heap ∧ (∀ b ∈ fp, H' b = none) ∧ W i n σ' H') ?_ m0 ⟨0, σ, H2, I2, st2, fun b hb => (f2 b hb).1, w0⟩
  rintro n s3 ⟨i, σ3, H3, I3, st3, fr3, w3⟩
  rcases turn i n σ3 H3 w3 with ⟨stop, qn⟩ | ⟨go, N, hN, step⟩
  · refine wpAny_passesOwn hp (thn (T.done X rfl rfl rfl hc i pins s3 σ3 H3 X.xe I3 (stat fr3) st3 stop) fun r s4 ⟨hr, I4⟩ => ?_)
    subst hr
    exact wpAny_execs_nil ⟨σ3, H3, I4, qn⟩
  · refine wpAny_passesOwn hp (thn (T.item X rfl rfl rfl hc i pins s3 σ3 H3 X.xe I3 (stat fr3) st3 go) fun r s4 ⟨u, hr, h4⟩ => ?_)
    subst hr
    refine wpAny_passesOwn hp (thn h4 fun _ s5 ⟨x, H5, I5, r5, y5, st5, fr5⟩ => ?_)
    have I5' := I5.pinned (stat fr5) (T.obj _ _ st5)
    refine wpAny_passesOwn hp (thn (hg _ s5 σ3 H5 x u _ I5' r5 (step x H5 y5)) fun _ s6 ⟨σ6, H6, I6, q6⟩ => ?_)
    refine wpAny_passesOwn hp (thn (hb _ s6 σ6 H6 _ I6 q6) fun f s7 q7 => ?_)
    have again : ∀ {σ7 : St} {H7 : Hp}, Inv X (pins ++ pinsAt fp s5.heap) σ7 H7 s7 → N σ7 H7 → ∃ m, m < n ∧ ∃ i σ' H', Inv X pins σ' H' s7 ∧ tn i s7.heap ∧ (∀ b ∈ fp, H' b = none) ∧ W i m σ' H' := fun {σ7 H7} I7 n7 => by
      obtain ⟨m', hm, w7⟩ := hN σ7 H7 n7
      refine ⟨m', hm, i + 1, σ7, H7, I7.unpinned, T.keep _ _ _ st5 fun b hb o e => (I7.pin (b, o) (List.mem_append_right _ (List.mem_append_right _ (mem_pinsAt hb e)))).1, fun b hb => ?_, w7⟩
      obtain ⟨o, e, d⟩ := T.obj _ _ st5 b hb
      exact (I7.pin (b, o) (List.mem_append_right _ (List.mem_append_right _ (mem_pinsAt hb e)))).2.1
    cases f with
    | next => obtain ⟨σ7, H7, I7, n7⟩ := q7; exact again I7 n7
    | cont => obtain ⟨σ7, H7, I7, n7⟩ := q7; exact again I7 n7
    | brk => obtain ⟨σ7, H7, I7, q7⟩ := q7; exact ⟨σ7, H7, I7.unpinned, q7⟩
    | ret v => obtain ⟨x7, σ7, H7, I7, r7, q7⟩ := q7; exact ⟨x7, σ7, H7, I7.unpinned, r7, q7⟩
end

/-! ### the forms one uses -/
/-- over a list that the body leaves as it is -/
theorem for_list {K : PySem.W.Frag} {a : Addr} {xs : List V} {g : TG} {tb : TS} {D : Ends} {σ : St} {H : Hp} (Pv : Nat → St → Hp → Prop) (h0 : Pv 0 σ H) (hl : ∀ i σ H, i ≤ xs.length → Pv i σ H → SqL K H a xs)
    (hs : ∀ i x σ H, xs[i]? = some x → Pv i σ H → g x σ H fun σ2 H2 => tb { D with nx := Pv (i + 1), ct := Pv (i + 1), bk := D.nx } σ2 H2) (hd : ∀ σ H, Pv xs.length σ H → D.nx σ H) :
    ∃ W : Nat → Nat → St → Hp → Prop, (∃ m, W 0 m σ H) ∧ ∀ i m σ H, W i m σ H →
      ((Itl K a).stop i H ∧ D.nx σ H) ∨ ((Itl K a).go i H ∧ ∃ N : St → Hp → Prop, (∀ σ' H', N σ' H' → ∃ m', m' < m ∧ W (i + 1) m' σ' H') ∧ ∀ x H', (Itl K a).yld i H x H' → g x σ H' fun σ2 H2 => tb { D with nx := N, ct := N, bk := D.nx } σ2 H2) := by
  refine ⟨fun i m σ H => m = xs.length - i ∧ i ≤ xs.length ∧ Pv i σ H, ⟨xs.length, by simp, Nat.zero_le _, h0⟩, ?_⟩
  rintro i m σ H ⟨rfl, hi, p⟩
  have q := hl i σ H hi p
  by_cases hlt : i < xs.length
  · refine .inr ⟨⟨xs, xs[i], q, by simp [hlt]⟩, Pv (i + 1), fun σ' H' p' => ⟨xs.length - (i + 1), by omega, rfl, hlt, p'⟩, fun x H' y => ?_⟩
    obtain ⟨e, y⟩ := y
    subst e
    exact hs i x σ _ (y xs q) p
  · have e : i = xs.length := by omega
    subst e
    exact .inl ⟨⟨xs, q, Nat.le_refl _⟩, hd σ H p⟩
theorem for_range {lo : Int} {n : Nat} {g : TG} {tb : TS} {D : Ends} {σ : St} {H : Hp} (Pv : Nat → St → Hp → Prop) (h0 : Pv 0 σ H)
    (hs : ∀ i σ H, i < n → Pv i σ H → g (.int (lo + i)) σ H fun σ2 H2 => tb { D with nx := Pv (i + 1), ct := Pv (i + 1), bk := D.nx } σ2 H2) (hd : ∀ σ H, Pv n σ H → D.nx σ H) :
    ∃ W : Nat → Nat → St → Hp → Prop, (∃ m, W 0 m σ H) ∧ ∀ i m σ H, W i m σ H →
      ((Itr lo n).stop i H ∧ D.nx σ H) ∨ ((Itr lo n).go i H ∧ ∃ N : St → Hp → Prop, (∀ σ' H', N σ' H' → ∃ m', m' < m ∧ W (i + 1) m' σ' H') ∧ ∀ x H', (Itr lo n).yld i H x H' → g x σ H' fun σ2 H2 => tb { D with nx := N, ct := N, bk := D.nx } σ2 H2) := by
  refine ⟨fun i m σ H => m = n - i ∧ i ≤ n ∧ Pv i σ H, ⟨n, by simp, Nat.zero_le _, h0⟩, ?_⟩
  rintro i m σ H ⟨rfl, hi, p⟩
  by_cases hlt : i < n
  · refine .inr ⟨hlt, Pv (i + 1), fun σ' H' p' => ⟨n - (i + 1), by omega, rfl, hlt, p'⟩, fun x H' y => ?_⟩
    obtain ⟨e, y⟩ := y
    subst e y
    exact hs i σ _ hlt p
  · have e : i = n := by omega
    subst e
    exact .inl ⟨Nat.le_refl _, hd σ H p⟩
end L2

namespace L2
open PySem PySem.Spec PyProof.Rows

abbrev R2 := V → V → Hp → VK → Prop
/-- a two-place operation on values: f is binaryOp op, inplaceOp op or compareOp op -/
def OpR (X : Cx) (f : Value → Value → Sem Value) (r : R2) : Prop :=
  ∀ (pins : List (Addr × Obj)) (s : Shared) (σ : St) (H : Hp) (x y : V) (v u : Value) (Q : VK), Inv X pins σ H s → RelV x v → RelV y u → r x y H Q →
    wpAny (model X.prog X.w) X.A (f v u) (EP X pins σ Q) X.xe s
/-- a one-place operation -/
def UnR (X : Cx) (f : Value → Sem Value) (r : V → Hp → VK → Prop) : Prop :=
  ∀ (pins : List (Addr × Obj)) (s : Shared) (σ : St) (H : Hp) (x : V) (v : Value) (Q : VK), Inv X pins σ H s → RelV x v → r x H Q →
    wpAny (model X.prog X.w) X.A (f v) (EP X pins σ Q) X.xe s
/-- a call of a value that is known (a builtin, a type) with values -/
def CallR (X : Cx) (f : Value) (r : List V → Hp → VK → Prop) : Prop :=
  ∀ (pins : List (Addr × Obj)) (s : Shared) (σ : St) (H : Hp) (xs : List V) (us : List Value) (Q : VK), Inv X pins σ H s → Vals xs us → r xs H Q →
    wpAny (model X.prog X.w) X.A (call f us) (EP X pins σ Q) X.xe s
/-- a value's truth -/
def TruR (X : Cx) (r : V → Hp → (Bool → Hp → Prop) → Prop) : Prop :=
  ∀ (pins : List (Addr × Obj)) (s : Shared) (σ : St) (H : Hp) (x : V) (v : Value) (Q : Bool → Hp → Prop), Inv X pins σ H s → RelV x v → r x H Q →
    wpAny (model X.prog X.w) X.A (truthy v) (TP X pins σ Q) X.xe s

def tOp (r : R2) (ta tb : TE) : TE := fun σ H Q => ta σ H fun x H1 => tb σ H1 fun y H2 => r x y H2 Q
def tUn (r : V → Hp → VK → Prop) (ta : TE) : TE := fun σ H Q => ta σ H fun x H1 => r x H1 Q
/-- ints in, under C, and a value out -/
def rI (C : Int → Int → Prop) (g : Int → Int → V) : R2 := fun x y H Q => ∃ i j, x = .int i ∧ y = .int j ∧ C i j ∧ Q (g i j) H
def rI0 (g : Int → Int → V) : R2 := fun x y H Q => ∃ i j, x = .int i ∧ y = .int j ∧ Q (g i j) H
def rU (g : Int → V) : V → Hp → VK → Prop := fun x H Q => ∃ i, x = .int i ∧ Q (g i) H

section
variable {X : Cx} {a b c : Expr} {ta tb tc : TE} {pos : Pos}

theorem binT (ha : PE X a ta) (hb : PE X b tb) {pins : List (Addr × Obj)} {s : Shared} {σ : St} {H : Hp} {R : V → V → Hp → Prop} (I : Inv X pins σ H s)
    (h : ta σ H fun x H1 => tb σ H1 fun y H2 => R x y H2) {Q : Value → Shared → Prop} {f : Value → Value → Sem Value}
    (hf : ∀ v u s2 x y H2, Inv X pins σ H2 s2 → RelV x v → RelV y u → R x y H2 → wpAny (model X.prog X.w) X.A (f v u) Q X.xe s2) :
    wpAny (model X.prog X.w) X.A (eval a X.env) (fun v s₁ => wpAny (model X.prog X.w) X.A (eval b X.env) (fun u s₂ => wpAny (model X.prog X.w) X.A (f v u) Q X.xe s₂) X.xe s₁) X.xe s := by
  refine thn (ha pins s σ H _ I h) fun v s1 ⟨x, H1, I1, r1, q1⟩ => ?_
  refine thn (hb pins s1 σ H1 _ I1 q1) fun u s2 ⟨y, H2, I2, r2, q2⟩ => ?_
  exact hf v u s2 x y H2 I2 r1 r2 q2

theorem pe_op {op : Operator} {r : R2} (ho : OpR X (binaryOp op) r) (ha : PE X a ta) (hb : PE X b tb) : PE X (.BinOp a op b pos) (tOp r ta tb) := by
  intro pins s σ H Q I h
  exact wpAny_BinOp (binT ha hb I h fun v u s2 x y H2 I2 rx ry q => ho pins s2 σ H2 x y v u Q I2 rx ry q)
theorem pe_un {op : UnaryOp} {r : V → Hp → VK → Prop} (ho : UnR X (unaryOp op) r) (ha : PE X a ta) : PE X (.UnaryOp op a pos) (tUn r ta) := by
  intro pins s σ H Q I h
  exact UnaryOp_ (thn (ha pins s σ H _ I h) fun v s1 ⟨x, H1, I1, r1, q1⟩ => ho pins s1 σ H1 x v Q I1 r1 q1)
/-! ### ints -/
theorem opI {f : Value → Value → Sem Value} {C : Int → Int → Prop} {g : Int → Int → Int}
    (rule : ∀ (i j : Int) (t u : Tok) (s : Shared) (Q : Value → Shared → Prop) (E : Value → Shared → Prop), C i j → Q (.int (g i j) s.toks) { s with toks := s.toks + 1 } → wpAny (model X.prog X.w) X.A (f (.int i t) (.int j u)) Q E s) :
    OpR X f (rI C fun i j => .int (g i j)) := by
  intro pins s σ H x y v u Q I rx ry h
  obtain ⟨i, j, rfl, rfl, hc, q⟩ := h
  obtain ⟨t, rfl⟩ := rx
  obtain ⟨t', rfl⟩ := ry
  exact rule i j t t' s _ _ hc ⟨.int (g i j), H, I.tok _, ⟨_, rfl⟩, q⟩
theorem opI0 {f : Value → Value → Sem Value} {g : Int → Int → Int}
    (rule : ∀ (i j : Int) (t u : Tok) (s : Shared) (Q : Value → Shared → Prop) (E : Value → Shared → Prop), Q (.int (g i j) s.toks) { s with toks := s.toks + 1 } → wpAny (model X.prog X.w) X.A (f (.int i t) (.int j u)) Q E s) :
    OpR X f (rI0 fun i j => .int (g i j)) := by
  intro pins s σ H x y v u Q I rx ry h
  obtain ⟨i, j, rfl, rfl, q⟩ := h
  obtain ⟨t, rfl⟩ := rx
  obtain ⟨t', rfl⟩ := ry
  exact rule i j t t' s _ _ ⟨.int (g i j), H, I.tok _, ⟨_, rfl⟩, q⟩
theorem opB0 {f : Value → Value → Sem Value} {g : Int → Int → Bool}
    (rule : ∀ (i j : Int) (t u : Tok) (s : Shared) (Q : Value → Shared → Prop) (E : Value → Shared → Prop), Q (.bool (g i j)) s → wpAny (model X.prog X.w) X.A (f (.int i t) (.int j u)) Q E s) :
    OpR X f (rI0 fun i j => .bl (g i j)) := by
  intro pins s σ H x y v u Q I rx ry h
  obtain ⟨i, j, rfl, rfl, q⟩ := h
  obtain ⟨t, rfl⟩ := rx
  obtain ⟨t', rfl⟩ := ry
  exact rule i j t t' s _ _ ⟨.bl (g i j), H, I, rfl, q⟩

def CDiv (i j : Int) : Prop := 0 < j ∧ j < 1073741824
def CDivN (i j : Int) : Prop := j ≠ 0 ∧ j.natAbs < 1073741824
def CPow (i j : Int) : Prop := 0 ≤ j ∧ j ≤ 1000000 ∧ i.natAbs < 2 ^ 64
def CMul (i j : Int) : Prop := (-(2 ^ 64) < i ∧ i < 2 ^ 64) ∨ (-(2 ^ 64) < j ∧ j < 2 ^ 64)
theorem op_add : OpR X (binaryOp .Add) (rI0 fun i j => .int (i + j)) := opI0 fun _ _ _ _ _ _ _ q => add_int q
theorem op_sub : OpR X (binaryOp .Sub) (rI0 fun i j => .int (i - j)) := opI0 fun _ _ _ _ _ _ _ q => sub_int q
/-- % by a positive divisor of any size -/
theorem op_mod : OpR X (binaryOp .Mod) (rI (fun _ j => 0 < j) fun i j => .int (i % j)) := opI fun i j _ _ _ _ _ hc q => by
  have h1 : (0 : Int) < j := hc
  exact mod_int' (by omega) (by rw [Int.fmod_eq_emod_of_nonneg i (by omega)]; exact q)
theorem unI {f : Value → Sem Value} {g : Int → Int}
    (rule : ∀ (i : Int) (t : Tok) (s : Shared) (Q : Value → Shared → Prop) (E : Value → Shared → Prop), Q (.int (g i) s.toks) { s with toks := s.toks + 1 } → wpAny (model X.prog X.w) X.A (f (.int i t)) Q E s) :
    UnR X f (rU fun i => .int (g i)) := by
  intro pins s σ H x v Q I rx h
  obtain ⟨i, rfl, q⟩ := h
  obtain ⟨t, rfl⟩ := rx
  exact rule i t s _ _ ⟨.int (g i), H, I.tok _, ⟨_, rfl⟩, q⟩
theorem un_neg : UnR X (unaryOp .USub) (rU fun i => .int (-i)) := unI fun _ _ _ _ _ q => neg_int q
/-! ### bools among ints: n += (a < b) -/
end

/-! ### comparisons -/
/-- the scalars that == tells apart as data does -/
def scal : V → V → Bool
  | .non, .non => true | .non, .int _ => true | .int _, .non => true | .non, .bl _ => true | .bl _, .non => true | .non, .str _ => true | .str _, .non => true
  | .int _, .int _ => true | .bl _, .bl _ => true | .str _, .str _ => true | .byt _, .byt _ => true
  | .int _, .str _ => true | .str _, .int _ => true | .bl _, .str _ => true | .str _, .bl _ => true
  | _, _ => false
def rEq : R2 := fun x y H Q => scal x y = true ∧ Q (.bl (decide (x = y))) H
def rNe : R2 := fun x y H Q => scal x y = true ∧ Q (.bl (!decide (x = y))) H

theorem dec_int {i j : Int} : decide (V.int i = V.int j) = (i == j) := by
  rw [Bool.eq_iff_iff]
  simp
theorem dec_bl {i j : Bool} : decide (V.bl i = V.bl j) = (i == j) := by
  rw [Bool.eq_iff_iff]
  simp
theorem dec_str {i j : Str} : decide (V.str i = V.str j) = (i == j) := by
  rw [Bool.eq_iff_iff]
  simp
theorem dec_byt {i j : Array UInt8} : decide (V.byt i = V.byt j) = (i.toList == j.toList) := by
  rw [Bool.eq_iff_iff]
  cases i
  cases j
  simp

section
variable {X : Cx} {a b c : Expr} {ta tb tc : TE} {pos : Pos}
theorem fin_bl {pins : List (Addr × Obj)} {σ : St} {H : Hp} {s : Shared} {Q : VK} {k k' : Bool} (I : Inv X pins σ H s) (q : Q (.bl k) H) (e : k = k') : EP X pins σ Q (.bool k') s := by
  subst e
  exact ⟨.bl k, H, I, rfl, q⟩
theorem op_eq : OpR X (compareOp .Eq) rEq := by
  intro pins s σ H x y v u Q I rx ry h
  obtain ⟨hs, q⟩ := h
  cases x with
  | non =>
    cases rx
    cases y with
    | non => cases ry; exact PySem.EqNone.eq_none_none (fin_bl I q (by simp))
    | bl j => cases ry; exact PySem.EqNone.eq_none_bool (fin_bl I q (by simp))
    | int j => obtain ⟨t', rfl⟩ := ry; exact PySem.EqNone.eq_none_int (fin_bl I q (by simp))
    | str j => obtain ⟨t', rfl⟩ := ry; exact PySem.EqNone.eq_none_str (fin_bl I q (by simp))
    | _ => exact absurd (show false = true from hs) Bool.false_ne_true
  | bl i =>
    cases rx
    cases y with
    | non => cases ry; exact PySem.EqNone.eq_bool_none (fin_bl I q (by simp))
    | bl j => cases ry; exact eq_bool (fin_bl I q dec_bl)
    | str j => obtain ⟨t', rfl⟩ := ry; exact PySem.EqMixed.eq_bool_str (fin_bl I q (by simp))
    | _ => exact absurd (show false = true from hs) Bool.false_ne_true
  | int i =>
    obtain ⟨t, rfl⟩ := rx
    cases y with
    | non => cases ry; exact PySem.EqNone.eq_int_none (fin_bl I q (by simp))
    | int j => obtain ⟨t', rfl⟩ := ry; exact eq_int (fin_bl I q dec_int)
    | str j => obtain ⟨t', rfl⟩ := ry; exact PySem.EqMixed.eq_int_str (fin_bl I q (by simp))
    | _ => exact absurd (show false = true from hs) Bool.false_ne_true
  | str i =>
    obtain ⟨t, rfl⟩ := rx
    cases y with
    | non => cases ry; exact PySem.EqNone.eq_str_none (fin_bl I q (by simp))
    | bl j => cases ry; exact PySem.EqMixed.eq_str_bool (fin_bl I q (by simp))
    | int j => obtain ⟨t', rfl⟩ := ry; exact PySem.EqMixed.eq_str_int (fin_bl I q (by simp))
    | str j => obtain ⟨t', rfl⟩ := ry; exact eq_str (fin_bl I q dec_str)
    | _ => exact absurd (show false = true from hs) Bool.false_ne_true
  | byt i =>
    obtain ⟨t, rfl⟩ := rx
    cases y with
    | byt j => obtain ⟨t', rfl⟩ := ry; exact PySem.W.eq_bytes (fin_bl I q dec_byt)
    | _ => exact absurd (show false = true from hs) Bool.false_ne_true
  | _ => cases y <;> exact absurd (show false = true from hs) Bool.false_ne_true
theorem op_ne : OpR X (compareOp .NotEq) rNe := by
  intro pins s σ H x y v u Q I rx ry h
  obtain ⟨hs, q⟩ := h
  cases x with
  | non =>
    cases rx
    cases y with
    | non => cases ry; exact PySem.EqNone.ne_none_none (fin_bl I q (by simp))
    | bl j => cases ry; exact PySem.EqNone.ne_none_bool (fin_bl I q (by simp))
    | int j => obtain ⟨t', rfl⟩ := ry; exact PySem.EqNone.ne_none_int (fin_bl I q (by simp))
    | str j => obtain ⟨t', rfl⟩ := ry; exact PySem.EqNone.ne_none_str (fin_bl I q (by simp))
    | _ => exact absurd (show false = true from hs) Bool.false_ne_true
  | bl i =>
    cases rx
    cases y with
    | non => cases ry; exact PySem.EqNone.ne_bool_none (fin_bl I q (by simp))
    | bl j => cases ry; exact ne_bool (fin_bl I q (congrArg not dec_bl))
    | str j => obtain ⟨t', rfl⟩ := ry; exact PySem.EqMixed.ne_bool_str (fin_bl I q (by simp))
    | _ => exact absurd (show false = true from hs) Bool.false_ne_true
  | int i =>
    obtain ⟨t, rfl⟩ := rx
    cases y with
    | non => cases ry; exact PySem.EqNone.ne_int_none (fin_bl I q (by simp))
    | int j => obtain ⟨t', rfl⟩ := ry; exact ne_int (fin_bl I q (congrArg not dec_int))
    | str j => obtain ⟨t', rfl⟩ := ry; exact PySem.EqMixed.ne_int_str (fin_bl I q (by simp))
    | _ => exact absurd (show false = true from hs) Bool.false_ne_true
  | str i =>
    obtain ⟨t, rfl⟩ := rx
    cases y with
    | non => cases ry; exact PySem.EqNone.ne_str_none (fin_bl I q (by simp))
    | bl j => cases ry; exact PySem.EqMixed.ne_str_bool (fin_bl I q (by simp))
    | int j => obtain ⟨t', rfl⟩ := ry; exact PySem.EqMixed.ne_str_int (fin_bl I q (by simp))
    | str j => obtain ⟨t', rfl⟩ := ry; exact ne_str (fin_bl I q (congrArg not dec_str))
    | _ => exact absurd (show false = true from hs) Bool.false_ne_true
  | byt i =>
    obtain ⟨t, rfl⟩ := rx
    cases y with
    | byt j => obtain ⟨t', rfl⟩ := ry; exact PySem.W.ne_bytes (fin_bl I q (congrArg not dec_byt))
    | _ => exact absurd (show false = true from hs) Bool.false_ne_true
  | _ => cases y <;> exact absurd (show false = true from hs) Bool.false_ne_true

theorem op_lt : OpR X (compareOp .Lt) (rI0 fun i j => .bl (decide (i < j))) := opB0 fun _ _ _ _ _ _ _ q => lt_int q
theorem op_le : OpR X (compareOp .LtE) (rI0 fun i j => .bl (decide (i ≤ j))) := opB0 fun _ _ _ _ _ _ _ q => le_int q
theorem op_gt : OpR X (compareOp .Gt) (rI0 fun i j => .bl (decide (j < i))) := opB0 fun _ _ _ _ _ _ _ q => gt_int q
/-- is, is not of two objects that are tracked lists or instances -/
def isObj : HO → Bool
  | .lst _ => true
  | .ins _ _ _ => true
  | _ => false
theorem nomark (b : Expr) {op : CmpOp} (h : op ≠ .In := by decide) (h2 : op ≠ .NotIn := by decide) : behindInMarks op b = false := by
  have e1 : (op == CmpOp.In) = false := by cases op <;> first | rfl | exact absurd rfl h
  have e2 : (op == CmpOp.NotIn) = false := by cases op <;> first | rfl | exact absurd rfl h2
  cases b <;> simp [behindInMarks, e1, e2]
/-- a comparison as a value; hm: nomark b, or (for in, not in) by with_unfolding_all rfl -/
theorem pe_cmpR {op : CmpOp} {r : R2} (ho : OpR X (compareOp op) r) (ha : PE X a ta) (hb : PE X b tb) (hm : behindInMarks op b = false) : PE X (.Compare a [op] [b] pos) (tOp r ta tb) := by
  intro pins s σ H Q I h
  exact wpAny_Compare1 (binT ha hb I h fun v u s2 x y H2 I2 rx ry q => ho pins s2 σ H2 x y v u Q I2 rx ry q) hm
/-- a reading of a value as a test -/
def tTest (t : TE) : TT := fun σ H Q => t σ H fun x H' => ∃ k, x = .bl k ∧ Q k H'
theorem pt_cmpR {op : CmpOp} {r : R2} (ho : OpR X (compareOp op) r) (ha : PE X a ta) (hb : PE X b tb) (hm : behindInMarks op b = false) : PT X (.Compare a [op] [b] pos) (tTest (tOp r ta tb)) := by
  intro pins s σ H Q I h
  refine wpAny_isTrue_Compare1 (thn (ha pins s σ H _ I h) fun v s1 ⟨x, H1, I1, r1, q1⟩ => thn (hb pins s1 σ H1 _ I1 q1) fun u s2 ⟨y, H2, I2, r2, q2⟩ =>
    thn (ho pins s2 σ H2 x y v u _ I2 r1 r2 q2) fun c s3 ⟨z, H3, I3, r3, k, e, q3⟩ => ?_) hm
  subst e
  cases r3
  exact wpAny_truthy_bool ⟨H3, I3, q3⟩
/-- a op1 b op2 c -/
def tChain (r r' : R2) (ta tb tc : TE) : TE := fun σ H Q => ta σ H fun x H1 => tb σ H1 fun y H2 => r x y H2 fun z H3 => ∃ k, z = .bl k ∧
  (if k = true then tc σ H3 fun w' H4 => r' y w' H4 Q else Q (.bl false) H3)
theorem pe_chain {op op' : CmpOp} {r r' : R2} (ho : OpR X (compareOp op) r) (ho' : OpR X (compareOp op') r') (ha : PE X a ta) (hb : PE X b tb) (hc : PE X c tc)
    (hm : lastMarks [op, op'] [b, c] = false := by with_unfolding_all rfl) : PE X (.Compare a [op, op'] [b, c] pos) (tChain r r' ta tb tc) := by
  intro pins s σ H Q I h
  refine Compare_chain (thn (ha pins s σ H _ I h) fun v s1 ⟨x, H1, I1, r1, q1⟩ => chain_link (thn (hb pins s1 σ H1 _ I1 q1) fun u s2 ⟨y, H2, I2, r2, q2⟩ =>
    thn (ho pins s2 σ H2 x y v u _ I2 r1 r2 q2) fun d s3 ⟨z, H3, I3, r3, k, e, q3⟩ => ?_)) hm
  subst e
  cases r3
  refine wpAny_truthy_bool ?_
  cases k with
  | false => exact ite_ff ⟨.bl false, H3, I3, rfl, q3⟩
  | true => exact ite_tt (chain_last (thn (hc pins s3 σ H3 _ I3 q3) fun w' s4 ⟨z', H4, I4, r4, q4⟩ => ho' pins s4 σ H4 y z' u w' Q I4 r2 r4 q4))
/-! ### truth -/
/-- a value's truth by the abstract heap -/
def TruV (K : PySem.W.Frag) (x : V) (H : Hp) (k : Bool) : Prop :=
  match x with
  | .non => k = false
  | .bl b => k = b
  | .int i => k = (i != 0)
  | .str y => y.length ≤ sizeLine ∧ k = ((y.length : Int) != 0)
  | .byt y => y.size ≤ sizeLine ∧ k = ((y.size : Int) != 0)
  | .ref p => (∃ xs, SqL K H p xs ∧ k = !xs.isEmpty) ∨ (∃ xs, SqT K H p xs ∧ k = !xs.isEmpty) ∨ ∃ kvs, H p = some (.dK kvs) ∧ k = !kvs.isEmpty
  | _ => False
theorem line63 : (sizeLine : Nat) < 2 ^ 63 := by rw [sizeLine_eq]; decide
/-! ### strs and bytes -/
def PlainIxT (b : Expr) : Prop := ∀ o i, subscripted b false o i = operate [o, i] (getItem o i)
/-! ### scalar builtins, by CallR -/
theorem vals1 {x : V} {us : List Value} (r : Vals [x] us) : ∃ u, us = [u] ∧ RelV x u := by
  cases r with
  | cons r1 r2 => cases r2; exact ⟨_, rfl, r1⟩
theorem call_ord : CallR X (.builtin "ord") (fun xs H Q => ∃ x, xs = [.str x] ∧ x.length = 1 ∧ Q (.int (x.cps.getD 0 0 : Nat)) H) := by
  intro pins s σ H xs us Q I r h
  obtain ⟨x, rfl, hz, q⟩ := h
  obtain ⟨u, rfl, t, rfl⟩ := vals1 r
  exact ord_of_one hz ⟨.int _, H, I.tok _, ⟨_, rfl⟩, q⟩
/-- len of a str, a bytes, a list, a tuple -/
def LenV (K : PySem.W.Frag) (x : V) (H : Hp) (n : Nat) : Prop :=
  match x with
  | .str y => y.length ≤ sizeLine ∧ n = y.length
  | .byt y => y.size ≤ sizeLine ∧ n = y.size
  | .ref p => (∃ xs, SqL K H p xs ∧ n = xs.length) ∨ ∃ xs, SqT K H p xs ∧ n = xs.length
  | _ => False
end
end L2

namespace L2
open PySem PySem.Spec PyProof.Rows

/-! ### an instance, its attributes a map -/
structure ObjM (h : Heap) (x dx C : Addr) (mA : Str → Option Value) : Prop where
  obj : h.get? x = some (PySem.W.instObj C dx)
  ns : h.Ns1 dx mA
  ne : dx ≠ x

section
variable {prog : Program} {w : World} {A : Around} {E : Value → Shared → Prop} {s : Shared} {K : PySem.W.Frag} {x dx C f : Addr} {mA : Str → Option Value} {name : Str} {v : Value}

end

/-! ### the attributes as a list of pairs -/
def putF (f : Str) (v : V) : List (Str × V) → List (Str × V)
  | [] => [(f, v)]
  | (g, x) :: r => if g = f then (g, v) :: r else (g, x) :: putF f v r
section
variable {P : Program} {w : World} {H H' : Hp} {h h' : Heap} {a C dx : Addr} {fs fs' : List (Str × V)}
end

/-! ### what of the text a class must have -/
structure Cls (K : PySem.W.Frag) (C : Addr) : Prop where
  pg : PySem.W.plainGet K C Str.empty = true
  hd : PySem.W.hasDictIn K C = true
  po : PySem.W.plainOver K C = true
  sa : PySem.W.findIn K (.ref C) "__setattr__" = some (some (.builtin "object.__setattr__"))
/-- no class of it has the name -/
def NoAttr (K : PySem.W.Frag) (C : Addr) (f : Str) : Prop := PySem.W.findIn K (.ref C) f = some none
/-- a constant of the class -/
structure Con (K : PySem.W.Frag) (C : Addr) (f : Str) (v : V) (u : Value) : Prop where
  at_ : PySem.W.findIn K (.ref C) f = some (some u)
  rel : RelV v u
  get : PySem.W.specialIn K u "__get__" = some none
  cp : PySem.W.copiedNames.contains f = false
/-- a method: a plain def of the class or of one above it -/
structure Meth (K : PySem.W.Frag) (C : Addr) (m : Str) (f : Addr) : Prop where
  at_ : PySem.W.findIn K (.ref C) m = some (some (.ref f))
  fn : PySem.W.isFn K (.ref f) = true
  kp : PySem.W.keepIn K (.ref f) = true

section
variable {X : Cx} {pins : List (Addr × Obj)} {σ : St} {H : Hp} {s : Shared} {a C dx : Addr} {fs : List (Str × V)} {f : Str} {v : V} {A : Around} {E : Value → Shared → Prop}

end

/-! ### readings and rules -/
/-- e.f, an attribute of the instance -/
def tFld (K : PySem.W.Frag) (ta : TE) (f : Str) : TE := fun σ H Q => ta σ H fun x H1 => ∃ a C dx fs v, x = .ref a ∧ H1 a = some (.ins C dx fs) ∧ Cls K C ∧ NoAttr K C f ∧ fs.lookup f = some v ∧ Q v H1
/-- e.f, a constant of the class -/
def tCon (K : PySem.W.Frag) (ta : TE) (f : Str) : TE := fun σ H Q => ta σ H fun x H1 => ∃ a C dx fs v u, x = .ref a ∧ H1 a = some (.ins C dx fs) ∧ Cls K C ∧ Con K C f v u ∧ fs.lookup f = none ∧ Q v H1
/-- e.f = value -/
def sFld (K : PySem.W.Frag) (ta tv : TE) (f : Str) : TS := fun D σ H => tv σ H fun y H1 => ta σ H1 fun x H2 => ∃ a C dx fs, x = .ref a ∧ H2 a = some (.ins C dx fs) ∧ Cls K C ∧ NoAttr K C f ∧ fs.length < 1000 ∧
  D.nx σ (upd H2 a (.ins C dx (putF f y fs)))
/-- an augmented operator on two values -/
def InOp (X : Cx) (op : Operator) (rd : V → V → Hp → VK → Prop) : Prop :=
  ∀ (pins : List (Addr × Obj)) (s : Shared) (σ : St) (H : Hp) (x y : V) (u v : Value) (Q : VK), Inv X pins σ H s → RelV x u → RelV y v → rd x y H Q → wpAny (model X.prog X.w) X.A (inplaceOp op u v) (EP X pins σ Q) X.xe s
/-- e.f op= value -/
def sFldAug (K : PySem.W.Frag) (ta tv : TE) (rd : V → V → Hp → VK → Prop) (f : Str) : TS := fun D σ H => ta σ H fun x H1 => ∃ a C dx fs v, x = .ref a ∧ H1 a = some (.ins C dx fs) ∧ Cls K C ∧ NoAttr K C f ∧ fs.lookup f = some v ∧
  tv σ H1 fun y H2 => rd v y H2 fun z H3 => ∃ dx' fs', H3 a = some (.ins C dx' fs') ∧ fs'.length < 1000 ∧ D.nx σ (upd H3 a (.ins C dx' (putF f z fs')))

section
variable {X : Cx} {o e value : Expr} {f : Str} {pos pos' tpos : Pos} {ta tv : TE}
def rAdd : V → V → Hp → VK → Prop := fun x y H Q => ∃ i j, x = .int i ∧ y = .int j ∧ Q (.int (i + j)) H
def rSub : V → V → Hp → VK → Prop := fun x y H Q => ∃ i j, x = .int i ∧ y = .int j ∧ Q (.int (i - j)) H
end

/-! ### isinstance -/
section
variable {X : Cx} {pins : List (Addr × Obj)} {σ : St} {H : Hp} {s : Shared} {A : Around} {E : Value → Shared → Prop} {Q : Value → Shared → Prop} {c : Value} {b : Bool}
/-- the type of a value, as the fragment's deciders take it; for an instance its class -/
inductive TyOf (K : PySem.W.Frag) (H : Hp) : V → Value → Prop where
  | non : TyOf K H .non (.type "NoneType")
  | bl (x : Bool) : TyOf K H (.bl x) (.type "bool")
  | int (i : Int) : TyOf K H (.int i) (.type "int")
  | str (x : Str) : TyOf K H (.str x) (.type "str")
  | flt (x : UInt64) : TyOf K H (.flt x) (.type "float")
  | lst {a : Addr} {xs : List V} (e : H a = some (.lst xs)) : TyOf K H (.ref a) (.type "list")
  | frz {a : Addr} {o : Obj} {xs : List V} (e : H a = some (.frz o (.lst xs))) : TyOf K H (.ref a) (.type "list")
  | tup {a : Addr} {xs : List V} (e : H a = some (.tup xs)) : TyOf K H (.ref a) (.type "tuple")
  | dK {a : Addr} {kvs : List (Key × V)} (e : H a = some (.dK kvs)) : TyOf K H (.ref a) (.type "dict")
  | dT {a : Addr} {kvs : List (List Key × V)} (e : H a = some (.dT kvs)) : TyOf K H (.ref a) (.type "dict")
  | ins {a C dx : Addr} {fs : List (Str × V)} (e : H a = some (.ins C dx fs)) (cl : Cls K C) (ha : PySem.W.findIn K (.ref C) "__class__" = some (some (.builtin "object.__class__")))
      (hn : PySem.W.specialIn K (.builtin "object.__class__") "__get__" = some (some (.builtin "getset_descriptor.__get__"))) (htk : PySem.W.takesIn K (.builtin "object.__class__") = some true)
      (hm : PySem.W.mroIn K C (.type "object") = some true) : TyOf K H (.ref a) (.ref C)
end
end L2

namespace L2
open PySem PySem.Spec PyProof.Rows

/-! ### room -/
structure Room (k : Nat) (A : Around) : Prop where
  hd : A.handled = none
  dp : A.depth + 3 * k + 5 < recursionLimit
  un : A.units + 16 * k + 200 < cLine
theorem Room.mono {j k : Nat} {A : Around} (r : Room k A) (h : j ≤ k) : Room j A := ⟨r.hd, by have := r.dp; omega, by have := r.un; omega⟩
theorem Room.deeper {k : Nat} {A : Around} (r : Room (k + 1) A) (env : Env) : Room k (A.deeper env) :=
  ⟨r.hd, by have := r.dp; show A.depth + 1 + 3 * k + 5 < _; omega, by have := r.un; show A.units + 3 + 16 * k + 200 < _; omega⟩
theorem Room.in1 {k : Nat} {A : Around} (r : Room (k + 1) A) : Room k A.in1 :=
  ⟨r.hd, by have := r.dp; show A.depth + 3 * k + 5 < _; omega, by have := r.un; show A.units + 1 + 16 * k + 200 < _; omega⟩
theorem Room.depth {k : Nat} {A : Around} (r : Room k A) : A.depth < recursionLimit := by have := r.dp; omega
theorem Room.units {k : Nat} {A : Around} (r : Room k A) : A.units + 64 < cLine := by have := r.un; omega
theorem Room.units0 {k : Nat} {A : Around} (r : Room k A) : A.units < cLine := by have := r.un; omega

/-! ### argument lists and displays -/
def tNil : TA := fun _ H Q => Q [] H
def tCons (ta : TE) (tr : TA) : TA := fun σ H Q => ta σ H fun x H1 => tr σ H1 fun xs H2 => Q (x :: xs) H2
section
variable {X : Cx} {e : Expr} {es : List Expr} {te : TE} {t : TA} {pos : Pos}
theorem pa_nil : PA X [] tNil := fun _ _ _ _ H Q I h => Calls.spliced_nil ⟨[], H, I, .nil, h⟩
theorem pa_cons (ha : PE X e te) (hr : PA X es t) (hs : starEach (e :: es) X.env = (false, eval e X.env) :: starEach es X.env := by rfl) : PA X (e :: es) (tCons te t) := by
  intro pos pins s σ H Q I h
  rw [hs]
  show wpAny _ _ (spliced ((false, eval e X.env) :: backTo pos (starEach es X.env))) _ _ s
  refine Calls.spliced_cons (thn (ha pins s σ H _ I h) fun u s1 ⟨x, H1, I1, r1, q1⟩ => ?_)
  exact thn (hr pos pins s1 σ H1 _ I1 q1) fun us s2 ⟨xs, H2, I2, r2, q2⟩ => ⟨x :: xs, H2, I2, .cons r1 r2, q2⟩

/-- a tuple, a list of written items -/
def tTup (t : TA) : TE := fun σ H Q => t σ H fun xs H1 => xs.length ≤ sizeLine ∧ ∀ p, H1 p = none → Q (.ref p) (upd H1 p (.tup xs))
def tLst (t : TA) : TE := fun σ H Q => t σ H fun xs H1 => xs.length ≤ sizeLine ∧ ∀ p, H1 p = none → Q (.ref p) (upd H1 p (.lst xs))
theorem pe_tup {x1} (h : PA X es t) : PE X (.Tuple es x1 pos) (tTup t) := by
  intro pins s σ H Q I hq
  refine wpAny_Tuple_spliced (thn (h pos pins s σ H _ I hq) fun us s1 ⟨xs, H1, I1, r, z, q⟩ => ⟨by rw [← r.length]; exact z, ?_⟩)
  have hf : H1 s1.heap.objs.size = none := I1.hok.fresh (Nat.le_refl _)
  refine ⟨.ref s1.heap.objs.size, upd H1 s1.heap.objs.size (.tup xs), I1.laid (t' := s1.toks) (fun b u e => Heap.get?_push_of_some _ e) (Nat.le_refl _) ?_, rfl, q _ hf⟩
  exact ⟨z, us, r, ⟨_, Heap.get?_push_size _ rfl, rfl, _, rfl⟩⟩
theorem pe_lst (h : PA X es t) : PE X (.List es pos) (tLst t) := by
  intro pins s σ H Q I hq
  refine wpAny_List_spliced (thn (h pos pins s σ H _ I hq) fun us s1 ⟨xs, H1, I1, r, z, q⟩ => ⟨by rw [← r.length]; exact z, ?_⟩)
  have hf : H1 s1.heap.objs.size = none := I1.hok.fresh (Nat.le_refl _)
  refine ⟨.ref s1.heap.objs.size, upd H1 s1.heap.objs.size (.lst xs), I1.laid (t' := s1.toks) (fun b u e => Heap.get?_push_of_some _ e) (Nat.le_refl _) ?_, rfl, q _ hf⟩
  exact ⟨z, us, 0, r, Heap.get?_push_size _ rfl⟩
end

/-! ### what a def promises -/
/-- a def's promise: the bound arguments in the parameters' order, the heap, the wanted end, the wanted exception -/
abbrev Sp := List V → Hp → VK → XK → Prop
/-- how an exception lies behind a call (file 08 gives it): the callers' frames, abstract heap and state ahead of the call, the wish, the exception, the state -/
abbrev CXT := List Env → Hp → Shared → XK → Value → Shared → Prop

/-- the state at a call -/
structure Env0 (P : Program) (w : World) (K : PySem.W.Frag) (mg : Str → Option Value) (base : Heap) (A : Around) (outer : List Env) (s : Shared) (H : Hp) : Prop where
  frames : A.frames = some outer
  mod : Mod K mg base
  bs : ∀ b o, base.get? b = some o → s.heap.get? b = some o ∧ H b = none
  bsz : base.objs.size ≤ s.heap.objs.size
  funs : s.heap.FunFrames base outer
  frf : ∀ b ∈ frs outer, H b = none
  hok : HOk P w H s.heap
  bare : AllBare s.gens
/-- a call's end -/
def CE (outer : List Env) (P : Program) (w : World) (H : Hp) (s : Shared) (Q : VK) (u : Value) (s' : Shared) : Prop :=
  ∃ v H', s'.os = s.os ∧ AllBare s'.gens ∧ Un (frs outer) [] H H' s.heap s'.heap ∧ HOk P w H' s'.heap ∧ RelV v u ∧ Q v H'
def CR (CX : CXT) (outer : List Env) (P : Program) (w : World) (H : Hp) (s : Shared) (Q : VK) (E : XK) (r : Result) (s' : Shared) : Prop :=
  match r with
  | .ok (.ret u) => CE outer P w H s Q u s'
  | .ok _ => False
  | .error e => CX outer H s E e s'
structure FnOk (P : Program) (w : World) (K : PySem.W.Frag) (mg : Str → Option Value) (base : Heap) (CX : CXT) (k : Nat) (f : Addr) (fd : FuncData) (ps : List Str) (sp : Sp) : Prop where
  len : ∀ vs H Q E, sp vs H Q E → vs.length = ps.length
  run : ∀ (A : Around) (outer : List Env) (s : Shared) (H : Hp) (args : Args) (us : List Value) (vs : List V) (Q : VK) (E : XK), Room k A → Env0 P w K mg base A outer s H → BindsTo s fd args (ps.zip us) → Vals vs us → sp vs H Q E →
    codeAny (model P w) A (.call (.ref f) args) (CR CX outer P w H s Q E) s
theorem FnOk.mono {P : Program} {w : World} {K : PySem.W.Frag} {mg : Str → Option Value} {base : Heap} {CX : CXT} {j k : Nat} {f : Addr} {fd : FuncData} {ps : List Str} {sp : Sp} (F : FnOk P w K mg base CX j f fd ps sp) (h : j ≤ k) :
    FnOk P w K mg base CX k f fd ps sp := ⟨F.len, fun A outer s H args us vs Q E hr => F.run A outer s H args us vs Q E (hr.mono h)⟩
theorem Env0.in1 {P : Program} {w : World} {K : PySem.W.Frag} {mg : Str → Option Value} {base : Heap} {A : Around} {outer : List Env} {s : Shared} {H : Hp} (e : Env0 P w K mg base A outer s H) :
    Env0 P w K mg base A.in1 outer s H := ⟨e.frames, e.mod, e.bs, e.bsz, e.funs, e.frf, e.hok, e.bare⟩

section
variable {X : Cx} {pins : List (Addr × Obj)} {σ : St} {H : Hp} {s s' : Shared}
/-- from a body: what a callee wants -/
theorem Inv.env0 (I : Inv X pins σ H s) : Env0 X.prog X.w X.K X.mg X.base X.A X.stack s H :=
  ⟨I.ok.frames, I.ok.mod, I.bs, Nat.le_trans I.ok.bsz I.sz, I.stack, I.stkFree, I.hok, I.bare⟩
/-- behind a call -/
theorem Inv.after {Q : VK} {u : Value} (I : Inv X pins σ H s) (h : CE X.stack X.prog X.w H s Q u s') : EP X pins σ Q u s' := by
  obtain ⟨v, H', os, bare, un, hok, r, q⟩ := h
  obtain ⟨hh, g, d, t, os'⟩ := s'
  obtain rfl : os' = s.os := os
  exact ⟨v, H', I.call (h' := hh) (g' := g) (d' := d) (t' := t) (ch := []) un hok bare (fun b z => absurd z (by simp)), r, q⟩
end

/-! ### calls -/
/-- f(..): the written arguments, then the defaults dvs; E: what is wanted of an exception -/
def tCall (sp : Sp) (dvs : List V) (E : XK) (t : TA) : TE := fun σ H Q => t σ H fun vs H1 => sp (vs ++ dvs) H1 Q E
/-- o.m(..) of an instance of the class at C -/
def tMeth (C : Addr) (m : Str) (sp : Sp) (dvs : List V) (E : XK) (ta : TE) (t : TA) : TE := fun σ H Q => ta σ H fun x H1 => ∃ a dx fs, x = .ref a ∧ H1 a = some (.ins C dx fs) ∧ fs.lookup m = none ∧
  t σ H1 fun vs H2 => sp (x :: (vs ++ dvs)) H2 Q E
/-- C(..): a new instance and its dict, then __init__ -/
def tMake (C : Addr) (sp : Sp) (dvs : List V) (E : XK) (t : TA) : TE := fun σ H Q => t σ H fun vs H1 => ∀ x dx, H1 x = none → H1 dx = none → dx ≠ x →
  sp (.ref x :: (vs ++ dvs)) (upd (upd H1 dx (.own x)) x (.ins C dx [])) (fun v H2 => v = .non ∧ Q (.ref x) H2) E

/-- how the parameters are bound: us the positional arguments, kw the keywords' values by name, ds the defaults that fill up -/
def Binds (K : PySem.W.Frag) (fd : FuncData) (ps : List Str) (ds : List Value) : Prop :=
  ∀ (s : Shared) (us : List Value), K.In s.heap → (us ++ ds).length = ps.length → BindsTo s fd ⟨us, []⟩ (ps.zip (us ++ ds))
/-- every parameter is given -/
theorem Binds.all {K : PySem.W.Frag} {fd : FuncData} {ps : List Str} (h : ∀ us : List Value, us.length = ps.length → bindArgs fd ⟨us, []⟩ = pure (ps.zip us)) : Binds K fd ps [] := fun s us _ hl => by
  rw [List.append_nil] at hl ⊢
  exact .of_eq (h us hl)

/-- an exception of a callee reaches what this body wants of exceptions -/
def Passes (CX : CXT) (X : Cx) (E : XK) : Prop := ∀ (pins : List (Addr × Obj)) (σ : St) (H : Hp) (s : Shared) (e : Value) (s' : Shared), Inv X pins σ H s → CX X.stack H s E e s' → X.xe e s'

section
variable {X : Cx} {CX : CXT} {k : Nat} {f C : Addr} {fd : FuncData} {ps : List Str} {sp : Sp} {dvs : List V} {ds : List Value} {E : XK} {x m : Str} {p pos apos : Pos} {e o : Expr} {es : List Expr} {ta : TE} {t : TA}

/-- the callee runs -/
theorem run_fn {pins : List (Addr × Obj)} {σ : St} {H : Hp} {s : Shared} {Q : VK} {us : List Value} {vs : List V} (F : FnOk X.prog X.w X.K X.mg X.base CX k f fd ps sp) (hr : Room k X.A) (hb : Binds X.K fd ps ds) (hd : Vals dvs ds) (hx : Passes CX X E)
    (I : Inv X pins σ H s) (r : Vals vs us) (h : sp (vs ++ dvs) H Q E) : wpAny (model X.prog X.w) X.A (call (.ref f) us) (EP X pins σ Q) X.xe s := by
  have r2 : Vals (vs ++ dvs) (us ++ ds) := r.append hd
  have hl : (us ++ ds).length = ps.length := by rw [← r2.length]; exact F.len _ _ _ _ h
  refine wpAny_call (codeAny_mono (F.run X.A X.stack s H ⟨us, []⟩ (us ++ ds) (vs ++ dvs) Q E hr I.env0 (hb s us I.kIn hl) r2 h) fun r s' hq => ?_)
  cases r with
  | error e => exact hx pins σ H s e s' I hq
  | ok fl =>
    cases fl with
    | ret u => exact I.after hq
    | next => exact False.elim hq
    | brk => exact False.elim hq
    | cont => exact False.elim hq

theorem pe_call (F : FnOk X.prog X.w X.K X.mg X.base CX k f fd ps sp) (hr : Room k X.A) (hg : Gl X x) (hm : X.mg x = some (.ref f)) (hk : PySem.W.keepIn X.K (.ref f) = true) (hb : Binds X.K fd ps ds) (hd : Vals dvs ds) (hx : Passes CX X E)
    (ha : PA X (e :: es) t) (hdb : (x == ("__debug__" : Str)) = false := by decide) (he : starEach (e :: es) X.env = (false, eval e X.env) :: starEach es X.env := by rfl) (hpl : (backTo pos (starEach es X.env)).any (·.1) = false := by rfl) :
    PE X (.Call (.Name x p) (e :: es) [] pos) (tCall sp dvs E t) := by
  intro pins s σ H Q I h
  refine wpAny_Call_Name_kw (ld_glob I hg hm ?_ hdb)
  refine PySem.W.callWith_K (h₀ := X.base) I.ok.mod.kin hk (thn (ha pos pins s σ H _ I h) fun us s1 ⟨vs, H1, I1, r, q⟩ => ⟨I1.kIn, ?_⟩) he hpl
  exact run_fn F hr hb hd hx I1 r q
/-- what a class must have to be made -/
structure Mk (K : PySem.W.Frag) (C f : Addr) : Prop where
  makes : PySem.W.makesIn K C = true
  init : PySem.W.findIn K (.ref C) "__init__" = some (some (.ref f))
  fn : PySem.W.isFn K (.ref f) = true
  kp : PySem.W.keepIn K (.ref C) = true

end

/-! ### keywords -/
/-- the values of the keywords, from the left -/
def PK (X : Cx) (kws : List Keyword) (t : TA) : Prop :=
  ∀ (pos : Pos) (pins : List (Addr × Obj)) (s : Shared) (σ : St) (H : Hp) (Q : List V → Hp → Prop), Inv X pins σ H s → t σ H Q → wpAny (model X.prog X.w) X.A (evalAll ((backToKw pos (keywordEach kws X.env)).map (·.2))) (AP X pins σ Q) X.xe s
section
variable {X : Cx} {CX : CXT} {k : Nat} {f C : Addr} {fd : FuncData} {ps ks : List Str} {sp : Sp} {E : XK} {x m : Str} {p pos apos kpos : Pos} {e o : Expr} {es : List Expr} {kws : List Keyword} {te ta : TE} {t tk : TA} {nm : Option Str}
theorem pk_nil : PK X [] tNil := fun _ _ _ _ H Q I h => wpAny_evalAll_nil ⟨[], H, I, .nil, h⟩
theorem pk_cons (ha : PE X e te) (hr : PK X kws t) : PK X (⟨nm, e, kpos⟩ :: kws) (tCons te t) := by
  intro pos pins s σ H Q I h
  show wpAny _ _ (evalAll ((do let v ← eval e X.env; standAt pos; pure v) :: (backToKw pos (keywordEach kws X.env)).map (·.2))) _ _ s
  refine wpAny_evalAll_cons (wpAny_bind (thn (ha pins s σ H _ I h) fun u s1 ⟨x, H1, I1, r1, q1⟩ => wpAny_bind (wpAny_standAt (wpAny_pure ?_))))
  exact thn (hr pos pins s1 σ H1 _ I1 q1) fun us s2 ⟨xs, H2, I2, r2, q2⟩ => ⟨x :: xs, H2, I2, .cons r1 r2, q2⟩

/-- how a call with keywords binds: g puts the positional values us and the keywords' values ws (names ks) in the parameters' order, defaults among them -/
structure KBinds (K : PySem.W.Frag) (fd : FuncData) (ps ks : List Str) (g : List Value → List Value → List Value) (gV : List V → List V → List V) : Prop where
  to : ∀ (s : Shared) (us ws : List Value), K.In s.heap → (g us ws).length = ps.length → BindsTo s fd ⟨us, ks.zip ws⟩ (ps.zip (g us ws))
  rel : ∀ {vs : List V} {us : List Value} {zs : List V} {ws : List Value}, Vals vs us → Vals zs ws → Vals (gV vs zs) (g us ws)
def tCallK (sp : Sp) (gV : List V → List V → List V) (E : XK) (t tk : TA) : TE := fun σ H Q => t σ H fun vs H1 => tk σ H1 fun zs H2 => sp (gV vs zs) H2 Q E
variable {g : List Value → List Value → List Value} {gV : List V → List V → List V}
end

/-! ### a def's body keeps its promise -/
/-- names: the parameters first -/
structure FnScope (N P : List Str) (sc : Scope) : Prop where
  kind : sc.kind = .function
  co : sc.isCoroutine = false
  gen : sc.isGenerator = false
  nd : N.Nodup
  pre : N.take P.length = P
  par : ∀ x ∈ P, sc.names.lookup x = some .local ∨ sc.names.lookup x = some .cell
  nofree : ∀ y ∈ sc.names, y.2 ≠ .free

theorem bindL_out {kindOf : Str → Option NameKind} {x : Str} : ∀ {binds : List (Str × Value)} {m : Str → Option Value}, (∀ v, (x, v) ∉ binds) → bindL kindOf binds m x = m x
  | [], _, _ => rfl
  | (n, v) :: r, m, h => by
    unfold bindL
    rw [bindL_out fun w hw => h w (List.mem_cons_of_mem _ hw)]
    split
    · have : x ≠ n := by rintro rfl; exact h v List.mem_cons_self
      simp [this]
    · rfl
theorem bindC_out {kindOf : Str → Option NameKind} {x : Str} : ∀ {binds : List (Str × Value)} {m : Str → Option Value}, (∀ v, (x, v) ∉ binds) → bindC kindOf binds m x = m x
  | [], _, _ => rfl
  | (n, v) :: r, m, h => by
    unfold bindC
    rw [bindC_out fun w hw => h w (List.mem_cons_of_mem _ hw)]
    split
    · rfl
    · have : x ≠ n := by rintro rfl; exact h v List.mem_cons_self
      simp [this]
theorem bindL_get {kindOf : Str → Option NameKind} {x : Str} {v : Value} : ∀ {P : List Str} {vs : List Value} {i : Nat} {m : Str → Option Value}, P.Nodup → P[i]? = some x → vs[i]? = some v → kindOf x = some .local →
    bindL kindOf (P.zip vs) m x = some v
  | [], _, _, _, _, h, _, _ => by simp at h
  | _ :: _, [], _, _, _, _, h, _ => by simp at h
  | p :: P, w :: vs, 0, m, nd, h1, h2, hk => by
    simp at h1 h2; subst h1; subst h2
    show bindL kindOf ((p, w) :: P.zip vs) m p = _
    unfold bindL
    rw [bindL_out fun v hv => (List.nodup_cons.mp nd).1 (List.of_mem_zip hv).1, if_pos hk]
    simp
  | p :: P, w :: vs, i + 1, m, nd, h1, h2, hk => by
    show bindL kindOf ((p, w) :: P.zip vs) m x = _
    unfold bindL
    exact bindL_get (i := i) (List.nodup_cons.mp nd).2 (by simpa using h1) (by simpa using h2) hk
theorem bindC_get {kindOf : Str → Option NameKind} {x : Str} {v : Value} : ∀ {P : List Str} {vs : List Value} {i : Nat} {m : Str → Option Value}, P.Nodup → P[i]? = some x → vs[i]? = some v → kindOf x ≠ some .local →
    bindC kindOf (P.zip vs) m x = some v
  | [], _, _, _, _, h, _, _ => by simp at h
  | _ :: _, [], _, _, _, _, h, _ => by simp at h
  | p :: P, w :: vs, 0, m, nd, h1, h2, hk => by
    simp at h1 h2; subst h1; subst h2
    show bindC kindOf ((p, w) :: P.zip vs) m p = _
    unfold bindC
    rw [bindC_out fun v hv => (List.nodup_cons.mp nd).1 (List.of_mem_zip hv).1, if_neg hk]
    simp
  | p :: P, w :: vs, i + 1, m, nd, h1, h2, hk => by
    show bindC kindOf ((p, w) :: P.zip vs) m x = _
    unfold bindC
    exact bindC_get (i := i) (List.nodup_cons.mp nd).2 (by simpa using h1) (by simpa using h2) hk

/-- the names' values at the entry -/
def start (N : List Str) (vs : List V) : St := vs.map some ++ List.replicate (N.length - vs.length) none

/-- the context of a def's body, at its entry; an exception leaves the frame, then lies as CX says -/
def cxOf (CX : CXT) (P : Program) (w : World) (K : PySem.W.Frag) (mg : Str → Option Value) (base : Heap) (N : List Str) (qual : Str) (scope : Scope) (f : Addr) (cd : Value) (A : Around) (outer : List Env) (s : Shared) (H : Hp) (E : XK) : Cx where
  prog := P
  w := w
  K := K
  mg := mg
  base := base
  A := A.deeper (envOfC qual scope s.heap.objs.size f cd)
  N := N
  s_0 := s
  H_0 := H
  env := envOfC qual scope s.heap.objs.size f cd
  outer := outer
  stack := envOfC qual scope s.heap.objs.size f cd :: outer
  ex := []
  calm := true
  fn := fun _ => true
  pn := []
  xe := fun e s' => wpAny (model P w) (A.deeper (envOfC qual scope s.heap.objs.size f cd)) (leaving (envOfC qual scope s.heap.objs.size f cd) e) (fun _ s'' => CX outer H s E e s'') (fun e' s'' => CX outer H s E e' s'') s'

theorem cell_has {sc : Scope} {n : Nat} {x : Str} (h : sc.names.lookup x = some .cell) : ∃ c, (cellsFrom n sc.names []).lookup x = some c := by
  have q := PySem.W.cellsFrom_some sc.names n [] (.inl h)
  exact Option.isSome_iff_exists.mp q

theorem inv_start {CX : CXT} {P : Program} {w : World} {K : PySem.W.Frag} {mg : Str → Option Value} {base : Heap} {N ps : List Str} {qual : Str} {scope : Scope} {f : Addr} {cd : Value} {A : Around} {outer : List Env} {s s1 : Shared} {H : Hp} {E : XK} {us : List Value} {vs : List V}
    (S : FnScope N ps scope) (hd : A.handled = none) (e0 : Env0 P w K mg base A outer s H) (hl : vs.length = ps.length) (r : Vals vs us)
    (x : InCallC s s.heap.objs.size (bindL (envOfC qual scope s.heap.objs.size f cd).kindOf (ps.zip us) fun _ => none) (cellsFrom (s.heap.objs.size + 1) scope.names []) (bindC (envOfC qual scope s.heap.objs.size f cd).kindOf (ps.zip us) fun _ => none) s1) :
    Inv (cxOf CX P w K mg base N qual scope f cd A outer s H E) [] (start N vs) H s1 := by
  have hpl : ps.length ≤ N.length := by have := congrArg List.length S.pre; rw [List.length_take] at this; omega
  obtain ⟨h1, tk, rfl, hk⟩ := x.done
  have noA : ∀ b : Addr, b ∉ (cxOf CX P w K mg base N qual scope f cd A outer s H E).ex := fun b z => absurd (show b ∈ ([] : List Addr) from z) (by simp)
  refine ⟨⟨e0.mod, S.kind, rfl, rfl, Nat.le_refl _, fun y z c h1 h2 => ?_, fun y hy => ?_, fun y c _ h => ?_, fun _ => hd, Around.frames_deeper e0.frames, .inr ⟨rfl, rfl⟩, fun b z => absurd z (noA b), e0.bs, e0.bsz, fun b _ _ => noA b, fun b z => absurd z (noA b), e0.funs, e0.frf⟩,
    rfl, e0.bare, Un.kept hk, ⟨_, x.toInCall.ns, fun i y v h1 h2 h3 => ?_⟩, fun y c h => ⟨_, x.cell y c h⟩, e0.hok.fresh (Nat.le_refl _), fun y c h => ?_, fun p hp => absurd (show p ∈ ([] : List (Addr × Obj)) from hp) (by simp), e0.hok.kept hk, ?_⟩
  · exact name_of_addr x.apart (PySem.mem_of_lookup h1) (PySem.mem_of_lookup h2)
  · have hy : scope.names.lookup y = some .cell ∨ scope.names.lookup y = some .free := hy
    rcases hy with hy | hy
    · exact cell_has hy
    · exact absurd rfl (S.nofree _ (PySem.mem_of_lookup hy))
  · exact Nat.le_of_lt (x.above y c (PySem.mem_of_lookup h))
  · have hi : i < vs.length := by
      unfold start at h2
      by_cases hi : i < vs.length
      · exact hi
      · rw [List.getElem?_append_right (by simpa using hi)] at h2
        rw [List.getElem?_replicate] at h2
        split at h2 <;> cases h2
    have ha : vs[i]? = some v := by
      unfold start at h2
      rw [List.getElem?_append_left (by simpa using hi), List.getElem?_map] at h2
      cases e : vs[i]? with
      | none => rw [e] at h2; cases h2
      | some a => rw [e] at h2; cases h2; rfl
    obtain ⟨u, hu, rv⟩ := r.get ha
    have hp : ps[i]? = some y := by
      rw [← S.pre, List.getElem?_take_of_lt (by omega)]; exact h1
    have ndP : ps.Nodup := by rw [← S.pre]; exact S.nd.sublist (List.take_sublist _ _)
    refine ⟨u, rv, ?_⟩
    rcases S.par y (List.mem_of_getElem? hp) with k | k
    · exact .inl ⟨k, bindL_get ndP hp hu k⟩
    · obtain ⟨c, e⟩ := cell_has (n := s.heap.objs.size + 1) k
      refine .inr ⟨.inl k, c, e, ?_⟩
      have q := x.cell y c e
      rw [bindC_get ndP hp hu (by show scope.names.lookup y ≠ _; rw [k]; decide)] at q
      exact q
  · exact e0.hok.fresh (Nat.le_of_lt (x.above y c (PySem.mem_of_lookup h)))
  · unfold start
    show _ = N.length
    rw [List.length_append, List.length_map, List.length_replicate]
    omega

/-- THE RULE: a def (or a method) of the text, by its body. The body's reading t is chosen for each entry; it is run at the parameters' values -/
theorem fn_of {CX : CXT} {P : Program} {w : World} {K : PySem.W.Frag} {mg : Str → Option Value} {base : Heap} {k : Nat} {f : Addr} {name qual : Str} {params : Arguments} {body : List Stmt} {scope : Scope} {dV kV doc pm cdv ct oc : Value} {an od : Option Addr}
    {osl : Array (Option Value)} {N ps : List Str} {sp : Sp} (lk : K.lookup f = some ⟨oc, od, .func (PySem.W.fnOf name qual params body scope dV kV doc pm an cdv ct), osl⟩) (hcd : PySem.W.codeIn K cdv qual = true) (S : FnScope N ps scope)
    (len : ∀ vs H Q E, sp vs H Q E → vs.length = ps.length)
    (hbody : ∀ (A : Around) (outer : List Env) (s : Shared) (H : Hp) (vs : List V) (Q : VK) (E : XK), Room k (A.deeper (envOfC qual scope s.heap.objs.size f cdv)) → sp vs H Q E →
      ∃ t, PSs (cxOf CX P w K mg base N qual scope f cdv A outer s H E) body t ∧ t { nx := fun _ H' => Q .non H', rt := Q } (start N vs) H) :
    FnOk P w K mg base CX (k + 1) f (PySem.W.fnOf name qual params body scope dV kV doc pm an cdv ct) ps sp := by
  refine ⟨len, fun A outer s H args us vs Q E hr e0 hb r hsp => ?_⟩
  have hl := len _ _ _ _ hsp
  have KX : K.In s.heap := e0.mod.kin.keeps fun b o e => (e0.bs b o e).1
  have lim : s.heap.NoLimit := e0.mod.nolimit.keeps fun b o e => (e0.bs b o e).1
  have hkind : ∀ y ∈ ps.zip us, scope.names.lookup y.1 = some .local ∨ (scope.names.lookup y.1 = some .cell ∧ ((cellsFrom (s.heap.objs.size + 1) scope.names []).lookup y.1).isSome = true) := fun ⟨n, v⟩ hy => by
    rcases S.par n (List.of_mem_zip hy).1 with q | q
    · exact .inl q
    · exact .inr ⟨q, PySem.W.cellsFrom_some _ _ _ (.inl q)⟩
  refine codeAny_call_function hr.depth (KX _ _ lk) rfl S.co S.gen rfl (PySem.W.codeRec_of KX hcd) (hb _ _ _ _ ?_)
  refine wpAny_newFunctionEnv_cells S.kind hkind fun env he s1 x => ?_
  subst he
  refine ⟨lim.keeps x.toInCall.keep, codeAny_func ?_⟩
  obtain ⟨t, ht, hq⟩ := hbody A outer s H vs Q E (hr.deeper _) hsp
  have I : Inv (cxOf CX P w K mg base N qual scope f cdv A outer s H E) [] (start N vs) H s1 := inv_start S hr.hd e0 hl r x
  refine wpAny_mono (ht [] s1 (start N vs) H _ I hq) (fun fl s' hs => ?_) fun e s' hs => hs
  have fin : ∀ {σ' : St} {H' : Hp} {v : V} {u : Value}, Inv (cxOf CX P w K mg base N qual scope f cdv A outer s H E) [] σ' H' s' → RelV v u → Q v H' → CE outer P w H s Q u s' :=
    fun {σ' H' v u} J rv q => ⟨v, H', J.os, J.bare, J.base, J.hok, rv, q⟩
  cases fl with
  | ret u =>
    obtain ⟨v, σ', H', J, rv, q⟩ := hs
    exact fin J rv q
  | next =>
    obtain ⟨σ', H', J, q⟩ := hs
    exact fin (v := V.non) (u := Value.none) J rfl q
  | brk =>
    obtain ⟨_, _, _, q⟩ := hs
    exact False.elim q
  | cont =>
    obtain ⟨_, _, _, q⟩ := hs
    exact False.elim q
end L2

namespace L2
open PySem PySem.Spec PyProof.Rows
section
variable {X : Cx} {x : Str} {p pos : Pos} {e : Expr} {es : List Expr} {t : TA} {id T : String} {r : List V → Hp → VK → Prop}

def tCB (r : List V → Hp → VK → Prop) (t : TA) : TE := fun σ H Q => t σ H fun vs H1 => r vs H1 Q
/-- f(e, ..), f a built-in function -/
theorem pe_callB (hc : CallR X (.builtin id) r) (hg : Gl X x) (hm : X.mg x = none) (hv : bootBuiltins x = some (.builtin id)) (ha : PA X (e :: es) t) (hn : x ≠ "__name__" := by decide) (hdb : (x == ("__debug__" : Str)) = false := by decide)
    (he : starEach (e :: es) X.env = (false, eval e X.env) :: starEach es X.env := by rfl) (hpl : (backTo pos (starEach es X.env)).any (·.1) = false := by rfl) : PE X (.Call (.Name x p) (e :: es) [] pos) (tCB r t) := by
  intro pins s σ H Q I h
  refine wpAny_Call_Name_kw (ld_blt I hg hm hv ?_ hn hdb)
  exact PyProof.Rows.callWith_builtin1 (thn (ha pos pins s σ H _ I h) fun us s1 ⟨vs, H1, I1, r1, q1⟩ => hc pins s1 σ H1 vs us Q I1 r1 q1) he hpl
/-- T(e, ..), T a built-in type -/
theorem pe_callTy (hc : CallR X (.type T) r) (hg : Gl X x) (hm : X.mg x = none) (hv : bootBuiltins x = some (.type T)) (ha : PA X (e :: es) t) (hn : x ≠ "__name__" := by decide) (hdb : (x == ("__debug__" : Str)) = false := by decide)
    (he : starEach (e :: es) X.env = (false, eval e X.env) :: starEach es X.env := by rfl) (hpl : (backTo pos (starEach es X.env)).any (·.1) = false := by rfl) : PE X (.Call (.Name x p) (e :: es) [] pos) (tCB r t) := by
  intro pins s σ H Q I h
  refine wpAny_Call_Name_kw (ld_blt I hg hm hv ?_ hn hdb)
  exact PyProof.Rows.callWith_type1 (thn (ha pos pins s σ H _ I h) fun us s1 ⟨vs, H1, I1, r1, q1⟩ => hc pins s1 σ H1 vs us Q I1 r1 q1) he hpl
end
end L2

namespace HT
open PySem PyProof.Rows

/-- t < u of tuples of ints -/
def lexLt : List Int → List Int → Bool
  | [], [] => false
  | [], _ :: _ => true
  | _ :: _, [] => false
  | x :: xs, y :: ys => if x = y then lexLt xs ys else decide (x < y)
section
open PySem.SeqAt
open PySem.AutoSeq1 (wpAny_loadPart')
open PySem.MeetsSeq PySem.MeetsSeq2 PySem.MeetsSeq3

end

section
variable {prog : Program} {w : World} {A : Around} {E : Value → Shared → Prop} {s : Shared}

/-! ### t[a:b], not the whole -/
/-- a slice's bound as a place among n (d where it is left out) -/
def sIx (n d : Nat) : Option Int → Nat
  | none => d
  | some v => if v < 0 then (v + (n : Int)).toNat else min v.toNat n
theorem sIx_none (n d : Nat) : sIx n d none = d := rfl
theorem sIx_nat (n d k : Nat) : sIx n d (some (k : Int)) = min k n := by
  show (if (k : Int) < 0 then ((k : Int) + (n : Int)).toNat else min (k : Int).toNat n) = min k n
  rw [if_neg (by omega), Int.toNat_natCast]
end
end HT

namespace L2
open PySem PySem.Spec PyProof.Rows

/-! ### the parts of a slice -/
abbrev TO := St → Hp → (Option Int → Hp → Prop) → Prop
/-- a slice's part (left out, or an int) -/
def PO (X : Cx) (e : Option Expr) (t : TO) : Prop :=
  ∀ (pins : List (Addr × Obj)) (s : Shared) (σ : St) (H : Hp) (Q : Option Int → Hp → Prop), Inv X pins σ H s → t σ H Q →
    wpAny (model X.prog X.w) X.A (evalPart e X.env) (fun u s' => ∃ o H', Inv X pins σ H' s' ∧ IsPart u o ∧ Q o H') X.xe s
def tNoPart : TO := fun _ H Q => Q none H
def tPart (t : TE) : TO := fun σ H Q => t σ H fun x H1 => ∃ i, x = .int i ∧ Q (some i) H1

section
variable {X : Cx} {e : Expr} {te : TE} {lo hi : Option Expr} {tl th : TO} {pos p2 : Pos}

theorem po_none : PO X none tNoPart := by
  intro pins s σ H Q I h
  rw [evalPart_none]
  exact wpAny_pure ⟨none, H, I, .none, h⟩
theorem po_some (h : PE X e te) : PO X (some e) (tPart te) := by
  intro pins s σ H Q I hw
  rw [evalPart_some]
  refine thn (h pins s σ H _ I hw) fun u s1 ⟨x, H1, I1, r1, q1⟩ => ?_
  obtain ⟨i, rfl, q⟩ := q1
  obtain ⟨t, rfl⟩ := r1
  exact ⟨some i, H1, I1, .int i t, q⟩

/-- what a slice of a value is, by values: the slice object stands at sl -/
def SlR (X : Cx) (r : V → Option Int → Option Int → Hp → VK → Prop) : Prop :=
  ∀ (pins : List (Addr × Obj)) (s : Shared) (σ : St) (H : Hp) (x : V) (v vl vu : Value) (lo hi : Option Int) (sl : Addr) (Q : VK), Inv X pins σ H s → RelV x v → s.heap.IsSliceOf sl vl vu .none → IsPart vl lo → IsPart vu hi → r x lo hi H Q →
    ∃ T id, typeLookup (.type T) "__getitem__" = pure (some (.builtin id)) ∧ s.TypeIs v T ∧ wpAny (model X.prog X.w) X.A (getItem v (.ref sl)) (EP X pins σ Q) X.xe s
def tSl (r : V → Option Int → Option Int → Hp → VK → Prop) (te : TE) (tl th : TO) : TE := fun σ H Q => te σ H fun x H1 => tl σ H1 fun l H2 => th σ H2 fun u H3 => r x l u H3 Q
/-- a[lo:hi], any a -/
theorem pe_slice {r : V → Option Int → Option Int → Hp → VK → Prop} (hr : SlR X r) (he : PE X e te) (hl : PO X lo tl) (hu : PO X hi th) : PE X (.Subscript e (.Slice lo hi none p2) pos) (tSl r te tl th) := by
  intro pins s σ H Q I h
  refine Subscript_ (thn (he pins s σ H _ I h) fun v s1 ⟨x, H1, I1, r1, q1⟩ => ?_)
  refine wpAny_Slice (thn (hl pins s1 σ H1 _ I1 q1) fun vl s2 ⟨l, H2, I2, pl, q2⟩ => thn (hu pins s2 σ H2 _ I2 q2) fun vu s3 ⟨u, H3, I3, pu, q3⟩ => ?_)
  rw [evalPart_none]
  refine wpAny_pure ?_
  have I4 : Inv X pins σ H3 { s3 with heap := s3.heap.push { cls := .type "slice", data := .fields #[vl, vu, .none] } } := I3.kept (t' := s3.toks) fun b ob q => Heap.get?_push_of_some _ q
  obtain ⟨T, id, hT, ht, hg⟩ := hr pins { s3 with heap := s3.heap.push { cls := .type "slice", data := .fields #[vl, vu, .none] } } σ H3 x v vl vu l u s3.heap.objs.size Q I4 r1 (Heap.IsSliceOf.new ..) pl pu q3
  show wpAny (model X.prog X.w) X.A (subscriptTail e (.Slice lo hi none p2) v (.ref s3.heap.objs.size)) (EP X pins σ Q) X.xe { s3 with heap := s3.heap.push { cls := .type "slice", data := .fields #[vl, vu, .none] } }
  exact tail_any (ops := [.ref s3.heap.objs.size, v]) ht hT hg (by with_unfolding_all rfl)

/-- the items of xs[lo:hi] -/
def cutV (xs : List V) (lo hi : Option Int) : List V := (xs.drop (HT.sIx xs.length 0 lo)).take (HT.sIx xs.length xs.length hi - HT.sIx xs.length 0 lo)
theorem cutV_length (xs : List V) (lo hi : Option Int) : (cutV xs lo hi).length ≤ xs.length := by
  unfold cutV
  rw [List.length_take, List.length_drop]
  omega
/-- t[lo:hi], not the whole of it (the whole would be t itself) -/
def rSlT (K : PySem.W.Frag) : V → Option Int → Option Int → Hp → VK → Prop := fun x lo hi H Q => ∃ a xs, x = .ref a ∧ SqT K H a xs ∧
  ¬ (HT.sIx xs.length 0 lo = 0 ∧ HT.sIx xs.length xs.length hi = xs.length) ∧ ∀ p, H p = none → Q (.ref p) (upd H p (.tup (cutV xs lo hi)))
/-! ### t < u, t + u -/
def rLtT (K : PySem.W.Frag) : R2 := fun x y H Q => ∃ a b ns ms, x = .ref a ∧ y = .ref b ∧ SqT K H a (ns.map V.int) ∧ SqT K H b (ms.map V.int) ∧ Q (.bl (HT.lexLt ns ms)) H
/-- t + u, t not empty: u empty gives t itself -/
def rCatT (K : PySem.W.Frag) : R2 := fun x y H Q => ∃ a b xs ys, x = .ref a ∧ y = .ref b ∧ SqT K H a xs ∧ SqT K H b ys ∧ xs ≠ [] ∧ xs.length + ys.length ≤ sizeLine ∧
  (ys = [] → Q (.ref a) H) ∧ (ys ≠ [] → ∀ p, H p = none → Q (.ref p) (upd H p (.tup (xs ++ ys))))
end
end L2

namespace L2
open PySem PySem.Spec PyProof.Rows

/-! ### places -/
/-- the place that an index of any sign means -/
def ixN (n : Nat) (i : Int) : Option Nat := if 0 ≤ i then (if i < n then some i.toNat else none) else if -(n : Int) ≤ i then some (i + n).toNat else none
def atI {α : Type} (xs : List α) (i : Int) : Option α := (ixN xs.length i).bind fun j => xs[j]?
theorem ixN_seq {n : Nat} {i : Int} {j : Nat} (h : ixN n i = some j) : seqIndex? i n = some j ∧ j < n ∧ -(n : Int) ≤ i ∧ i < n := by
  unfold ixN at h
  by_cases h0 : 0 ≤ i
  · rw [if_pos h0] at h
    by_cases h1 : i < n
    · rw [if_pos h1] at h
      have e : i.toNat = j := Option.some.inj h
      exact ⟨by rw [seqIndex_of h0 h1, e], by omega, by omega, h1⟩
    · rw [if_neg h1] at h; cases h
  · rw [if_neg h0] at h
    by_cases h1 : -(n : Int) ≤ i
    · rw [if_pos h1] at h
      have e : (i + n).toNat = j := Option.some.inj h
      exact ⟨by rw [seqIndex_neg (by omega) h1, e], by omega, h1, by omega⟩
    · rw [if_neg h1] at h; cases h
theorem atI_get {α : Type} {xs : List α} {i : Int} {v : α} (h : atI xs i = some v) : ∃ j, seqIndex? i xs.length = some j ∧ xs[j]? = some v ∧ j < xs.length ∧ -(xs.length : Int) ≤ i ∧ i < xs.length := by
  unfold atI at h
  cases e : ixN xs.length i with
  | none => rw [e] at h; cases h
  | some j =>
    rw [e] at h
    obtain ⟨h1, h2, h3, h4⟩ := ixN_seq e
    exact ⟨j, h1, h, h2, h3, h4⟩
theorem atI_nat {α : Type} {xs : List α} {j : Nat} {v : α} (h : xs[j]? = some v) : atI xs (j : Int) = some v := by
  have hj : j < xs.length := (List.getElem?_eq_some_iff.mp h).1
  have e : ixN xs.length (j : Int) = some j := by
    unfold ixN
    rw [if_pos (by omega), if_pos (by omega)]; simp
  unfold atI; rw [e]; exact h
/-! ### what may be subscripted -/
/-- what stands as an index of a plain subscript -/
def PlainIx (b : Expr) : Prop := ∀ o i, subscripted b false o i = operate [o, i] (getItem o i)
/-- a subscript by values -/
def IxR (X : Cx) (r : R2) : Prop :=
  ∀ (value slice : Expr) (pins : List (Addr × Obj)) (s : Shared) (σ : St) (H : Hp) (x y : V) (v u : Value) (Q : VK), Inv X pins σ H s → RelV x v → RelV y u → r x y H Q →
    subscripted slice false v u = operate [v, u] (getItem v u) → wpAny (model X.prog X.w) X.A (subscriptTail value slice v u) (EP X pins σ Q) X.xe s
/-- a call of a builtin's method by values: the receiver, the arguments -/
def MtR (X : Cx) (id : String) (r : V → List V → Hp → VK → Prop) : Prop :=
  ∀ (pins : List (Addr × Obj)) (s : Shared) (σ : St) (H : Hp) (x : V) (xs : List V) (v : Value) (us : List Value) (Q : VK), Inv X pins σ H s → RelV x v → Vals xs us → r x xs H Q →
    wpAny (model X.prog X.w) X.A (call (.builtin id) (v :: us)) (EP X pins σ Q) X.xe s
section
variable {X : Cx} {a b : Expr} {ta tb : TE} {pos : Pos}
/-- a[b] -/
theorem pe_ix {r : R2} (hr : IxR X r) (ha : PE X a ta) (hb : PE X b tb) (hs : PlainIx b) : PE X (.Subscript a b pos) (tOp r ta tb) := by
  intro pins s σ H Q I h
  exact Subscript_ (binT ha hb I h fun v u s2 x y H2 I2 rx ry q => hr a b pins s2 σ H2 x y v u Q I2 rx ry q (hs _ _))

def rIxL (K : PySem.W.Frag) : R2 := fun x y H Q => ∃ p xs i v, x = .ref p ∧ y = .int i ∧ SqL K H p xs ∧ atI xs i = some v ∧ Q v H
def rIxT (K : PySem.W.Frag) : R2 := fun x y H Q => ∃ p xs i v, x = .ref p ∧ y = .int i ∧ SqT K H p xs ∧ atI xs i = some v ∧ Q v H
def rIxS : R2 := fun x y H Q => ∃ z i c, x = .str z ∧ y = .int i ∧ z.length ≤ sizeLine ∧ atI z.cps.toList i = some c ∧ Q (.str ⟨#[c]⟩) H
theorem ix_list : IxR X (rIxL X.K) := by
  intro value slice pins s σ H x y v u Q I rx ry h hs
  obtain ⟨p, xs, i, z, rfl, rfl, hq, he, q⟩ := h
  cases rx
  obtain ⟨t, rfl⟩ := ry
  obtain ⟨its, r, pl, hz⟩ := I.list hq
  obtain ⟨j, h1, h2, h3, h4, h5⟩ := atI_get he
  obtain ⟨w, ew, rw'⟩ := r.get h2
  have hl := r.length
  have hn := line63
  have fin : EP X pins σ Q w s := ⟨z, H, I, rw', q⟩
  by_cases h0 : 0 ≤ i
  · have hj : i.toNat = j := by
      rw [seqIndex_of h0 h5] at h1
      exact Option.some.inj h1
    exact item_listR pl.isList h0 (by omega) (by rw [hj]; simpa using ew) fin hs
  · have hj : (i + (its.toArray.size : Int)).toNat = j := by
      rw [seqIndex_neg (by omega) h4] at h1
      rw [List.size_toArray, ← hl]
      exact Option.some.inj h1
    exact subscriptTail_builtinR (x := w) pl.isList.typeIs slot_list_getitem.lookup
      (wpAny_getItem_list_neg (Q := fun r s' => r = w ∧ EP X pins σ Q r s') pl.isList (by omega) (by rw [List.size_toArray] <;> omega) (by omega) (by rw [hj]; simpa using ew) ⟨rfl, fin⟩) hs
theorem ix_tup : IxR X (rIxT X.K) := by
  intro value slice pins s σ H x y v u Q I rx ry h hs
  obtain ⟨p, xs, i, z, rfl, rfl, hq, he, q⟩ := h
  cases rx
  obtain ⟨t, rfl⟩ := ry
  obtain ⟨its, r, pl, hz⟩ := I.tuple hq
  obtain ⟨j, h1, h2, h3, h4, h5⟩ := atI_get he
  obtain ⟨w, ew, rw'⟩ := r.get h2
  have hl := r.length
  have hn := line63
  have fin : EP X pins σ Q w s := ⟨z, H, I, rw', q⟩
  exact subscriptTail_builtinR (x := w) pl.typeIs slot_tuple_getitem.lookup
    (getItem_tuple (j := j) (Q := fun r s' => r = w ∧ EP X pins σ Q r s') pl (by omega) (by omega) (by rw [List.size_toArray, ← hl]; exact h1) (by simpa using ew) ⟨rfl, fin⟩) hs
/-- list, tuple or str -/
def rIx (K : PySem.W.Frag) : R2 := fun x y H Q => rIxL K x y H Q ∨ rIxT K x y H Q ∨ rIxS x y H Q
/-! ### xs[i] = v, any sign -/
def rSetL : V → V → V → Hp → (Hp → Prop) → Prop := fun o i v H Q => ∃ p xs k j, o = .ref p ∧ i = .int k ∧ H p = some (.lst xs) ∧ ixN xs.length k = some j ∧ Q (upd H p (.lst (xs.set j v)))
/-! ### slices -/
theorem slice_bounds (lo hi : Option Int) (n : Nat) : (sliceBounds lo hi none n).1 = ((HT.sIx n 0 lo : Nat) : Int) ∧ (sliceBounds lo hi none n).2.1 = ((HT.sIx n n hi : Nat) : Int) ∧ (sliceBounds lo hi none n).2.2 = 1 := by
  refine ⟨?_, ?_, rfl⟩
  · cases lo with
    | none => simp [sliceBounds, HT.sIx]
    | some i =>
      simp only [sliceBounds, HT.sIx, Option.getD_none, show (1 : Int) > 0 by decide, if_true]
      by_cases h : i < 0
      · simp only [h, if_true] <;> omega
      · simp only [h, if_false] <;> omega
  · cases hi with
    | none => simp [sliceBounds, HT.sIx]
    | some i =>
      simp only [sliceBounds, HT.sIx, Option.getD_none, show (1 : Int) > 0 by decide, if_true]
      by_cases h : i < 0
      · simp only [h, if_true] <;> omega
      · simp only [h, if_false] <;> omega
theorem slicePick_cut (its : List Value) (lo hi : Option Int) : slicePick its.toArray lo hi none = ((its.drop (HT.sIx its.length 0 lo)).take (HT.sIx its.length its.length hi - HT.sIx its.length 0 lo)).toArray := by
  obtain ⟨h1, h2, h3⟩ := slice_bounds lo hi its.toArray.size
  unfold slicePick
  rw [h1, h2, h3]
  simp only [sliceRange_one, pick_run, List.size_toArray] <;> rfl
/-- xs[lo:hi] of a list: a new list -/
def rSlL (K : PySem.W.Frag) : V → Option Int → Option Int → Hp → VK → Prop := fun x lo hi H Q => ∃ a xs, x = .ref a ∧ SqL K H a xs ∧ ∀ p, H p = none → Q (.ref p) (upd H p (.lst (cutV xs lo hi)))
theorem sl_list : SlR X (rSlL X.K) := by
  intro pins s σ H x v vl vu lo hi sl Q I rx hs pl pu h
  obtain ⟨a, xs, rfl, hx, q⟩ := h
  cases rx
  obtain ⟨its, r, ht, hz⟩ := I.list hx
  have hlen := r.length
  refine ⟨"list", _, slot_list_getitem.lookup, ht.isList.typeIs, ?_⟩
  refine wpAny_getItem_list_slice ht.isList hs pl pu .none (by simp) ?_ (by rw [List.size_toArray] <;> omega)
  rw [slicePick_cut, ← hlen]
  refine ⟨.ref s.heap.objs.size, _, I.laid (t' := s.toks) (o := .lst (cutV xs lo hi)) (fun b ob q => Heap.get?_push_of_some _ q) (Nat.le_refl _) ?_, rfl, q _ (I.hok.fresh (Nat.le_refl _))⟩
  exact ⟨Nat.le_trans (cutV_length xs lo hi) hz, _, 0, (r.drop (HT.sIx xs.length 0 lo)).take (HT.sIx xs.length xs.length hi - HT.sIx xs.length 0 lo), Heap.get?_push_size _ rfl⟩

/-! ### in, not in: flat items -/
def flatV : V → Bool
  | .non => true
  | .bl _ => true
  | .int _ => true
  | .str _ => true
  | _ => false
/-- == of flat values -/
def eqV : V → V → Bool
  | .non, .non => true
  | .bl a, .bl b => a == b
  | .bl a, .int b => (if a then 1 else 0) == b
  | .int a, .bl b => a == (if b then 1 else 0)
  | .int a, .int b => a == b
  | .str a, .str b => a == b
  | _, _ => false
theorem eqAt_V {A : Around} {s : Shared} {y x : V} {u v : Value} (ry : RelV y u) (rx : RelV x v) (fy : flatV y = true) (fx : flatV x = true) : SeqAt.EqAt A s u v (eqV y x) := by
  cases y with
  | non =>
    cases ry
    cases x with
    | non => cases rx; exact SeqAt.EqAt.same _
    | bl b => cases rx; exact SeqAt.EqAt.none_bool b
    | int b => obtain ⟨t, rfl⟩ := rx; exact SeqAt.EqAt.none_int b t
    | str b => obtain ⟨t, rfl⟩ := rx; exact SeqAt.EqAt.none_str b t
    | _ => exact absurd (show false = true from fx) Bool.false_ne_true
  | bl a =>
    cases ry
    cases x with
    | non => cases rx; exact SeqAt.EqAt.bool_none a
    | bl b => cases rx; exact SeqAt.EqAt.bool_bool a b
    | int b => obtain ⟨t, rfl⟩ := rx; exact SeqAt.EqAt.bool_int a b t
    | str b => obtain ⟨t, rfl⟩ := rx; exact SeqAt.EqAt.bool_str a b t
    | _ => exact absurd (show false = true from fx) Bool.false_ne_true
  | int a =>
    obtain ⟨t', rfl⟩ := ry
    cases x with
    | non => cases rx; exact SeqAt.EqAt.int_none a t'
    | bl b => cases rx; exact SeqAt.EqAt.int_bool a t' b
    | int b => obtain ⟨t, rfl⟩ := rx; exact SeqAt.EqAt.int_int a t' b t
    | str b => obtain ⟨t, rfl⟩ := rx; exact SeqAt.EqAt.int_str a t' b t
    | _ => exact absurd (show false = true from fx) Bool.false_ne_true
  | str a =>
    obtain ⟨t', rfl⟩ := ry
    cases x with
    | non => cases rx; exact SeqAt.EqAt.str_none a t'
    | bl b => cases rx; exact SeqAt.EqAt.str_bool a t' b
    | int b => obtain ⟨t, rfl⟩ := rx; exact SeqAt.EqAt.str_int a t' b t
    | str b => obtain ⟨t, rfl⟩ := rx; exact SeqAt.EqAt.str_str a t' b t
    | _ => exact absurd (show false = true from fx) Bool.false_ne_true
  | _ => exact absurd (show false = true from fy) Bool.false_ne_true
/-- the items' answers, read off the values (a value's own answer does not lean on its token) -/
def eqU (x : V) (u : Value) : Bool := match u with
  | .none => eqV .non x
  | .bool b => eqV (.bl b) x
  | .int i _ => eqV (.int i) x
  | .str z _ => eqV (.str z) x
  | _ => false
theorem eqU_of {x y : V} {u : Value} (r : RelV y u) (f : flatV y = true) : eqU x u = eqV y x := by
  cases y with
  | non => cases r; rfl
  | bl b => cases r; rfl
  | int i => obtain ⟨t, rfl⟩ := r; rfl
  | str z => obtain ⟨t, rfl⟩ := r; rfl
  | _ => exact absurd (show false = true from f) Bool.false_ne_true
theorem any_eqU {x : V} : ∀ {xs : List V} {us : List Value}, Vals xs us → xs.all flatV = true → us.any (eqU x) = xs.any fun y => eqV y x
  | _, _, .nil, _ => rfl
  | y :: xs, u :: us, .cons r t, f => by
    rw [List.all_cons, Bool.and_eq_true] at f
    rw [List.any_cons, List.any_cons, eqU_of r f.1, any_eqU t f.2]
theorem mem_eqAt {A : Around} {s : Shared} {x : V} {v : Value} (rx : RelV x v) (fx : flatV x = true) : ∀ {xs : List V} {us : List Value}, Vals xs us → xs.all flatV = true → ∀ u ∈ us, SeqAt.EqAt A s u v (eqU x u)
  | _, _, .nil, _ => fun u hu => by cases hu
  | y :: xs, u :: us, .cons r t, f => fun u' hu => by
    rw [List.all_cons, Bool.and_eq_true] at f
    rcases List.mem_cons.mp hu with rfl | hu
    · rw [eqU_of r f.1]; exact eqAt_V r rx f.1 fx
    · exact mem_eqAt rx fx t f.2 u' hu
def inV (x : V) (xs : List V) : Bool := xs.any fun y => eqV y x
/-- x in a list or tuple of flat items -/
def rIn (K : PySem.W.Frag) (neg : Bool) : R2 := fun x y H Q => ∃ p xs, y = .ref p ∧ (SqL K H p xs ∨ SqT K H p xs) ∧ flatV x = true ∧ xs.all flatV = true ∧ Q (.bl (if neg then !inV x xs else inV x xs)) H
theorem op_in_seq : OpR X (compareOp .In) (rIn X.K false) := by
  intro pins s σ H x y v u Q I rx ry h
  obtain ⟨p, xs, rfl, hq, fx, fs, q⟩ := h
  cases ry
  rcases hq with hq | hq
  · obtain ⟨its, r, pl, hz⟩ := I.list hq
    refine SeqAt.in_listAt (eqU x) pl.isList (fun w hw => mem_eqAt rx fx r fs w (by simpa using hw)) ⟨.bl _, H, I, rfl, ?_⟩
    rw [show its.toArray.any (eqU x) = its.any (eqU x) by simp, any_eqU r fs]
    exact q
  · obtain ⟨its, r, pl, hz⟩ := I.tuple hq
    refine SeqAt.in_tupleAt (eqU x) pl (fun w hw => mem_eqAt rx fx r fs w (by simpa using hw)) ⟨.bl _, H, I, rfl, ?_⟩
    rw [show its.toArray.any (eqU x) = its.any (eqU x) by simp, any_eqU r fs]
    exact q
/-! ### len, list(x), tuple(x) of any list or tuple that is read -/
theorem call_len_seq : CallR X (.builtin "len") (fun xs H Q => ∃ p ys, xs = [.ref p] ∧ (SqL X.K H p ys ∨ SqT X.K H p ys) ∧ Q (.int ys.length) H) := by
  intro pins s σ H xs us Q I r h
  obtain ⟨p, ys, rfl, hq, q⟩ := h
  obtain ⟨u, rfl, rx⟩ := vals1 r
  cases rx
  have hn := line63
  rcases hq with hq | hq
  · obtain ⟨its, r', pl, hz⟩ := I.list hq
    have hlen := r'.length
    exact Calls.call_len_list pl.isList (by simp only [List.size_toArray] <;> omega) ⟨.int ys.length, H, I.tok _, ⟨s.toks + 1, by rw [List.size_toArray, hlen]⟩, q⟩
  · obtain ⟨its, r', pl, hz⟩ := I.tuple hq
    have hlen := r'.length
    exact len_tuple pl (by simp only [List.size_toArray] <;> omega) ⟨.int ys.length, H, I.tok _, ⟨s.toks + 1, by rw [List.size_toArray, hlen]⟩, q⟩
/-! ### the call of a builtin's method: o.m(..) -/
/-- the value is of that builtin type -/
def tyV (K : PySem.W.Frag) (T : String) (x : V) (H : Hp) : Prop := match x with
  | .str _ => T = "str"
  | .int _ => T = "int"
  | .ref p => (T = "list" ∧ ∃ xs, SqL K H p xs) ∨ (T = "tuple" ∧ ∃ o, K.lookup p = some o ∧ o.cls = .type "tuple" ∧ o.dict = none) ∨
      (T = "dict" ∧ ((∃ kvs, H p = some (.dK kvs)) ∨ ∃ kvs, H p = some (.dT kvs))) ∨ (T = "set" ∧ ∃ S n, H p = some (.set S n))
  | _ => False
theorem tyV_is {pins : List (Addr × Obj)} {σ : St} {H : Hp} {s : Shared} {T : String} {x : V} {v : Value} (I : Inv X pins σ H s) (r : RelV x v) (ty : tyV X.K T x H) :
    s.TypeIs v T ∧ ∀ a, v = .ref a → ∃ ob, s.heap.get? a = some ob ∧ ob.dict = none := by
  cases x with
  | str z =>
    obtain ⟨t, rfl⟩ := r
    cases (show T = "str" from ty)
    exact ⟨typeIs_str s z t, fun _ e => nomatch e⟩
  | int i =>
    obtain ⟨t, rfl⟩ := r
    cases (show T = "int" from ty)
    exact ⟨typeIs_int s i t, fun _ e => nomatch e⟩
  | ref p =>
    cases r
    rcases ty with ⟨rfl, xs, hq⟩ | ⟨rfl, o, hk, hc, hd⟩ | ⟨rfl, hk⟩ | ⟨rfl, S, n, hk⟩
    · obtain ⟨its, _, pl, _⟩ := I.list hq
      refine ⟨pl.isList.typeIs, fun a e => ?_⟩
      cases e
      obtain ⟨o, n, e, c, hd, _⟩ := pl
      exact ⟨o, e, hd⟩
    · refine ⟨⟨o, I.kIn p o hk, hc⟩, fun a e => ?_⟩
      cases e
      exact ⟨o, I.kIn _ o hk, hd⟩
    · have z : ∃ o, s.heap.get? p = some o ∧ o.ExactDict := by
        rcases hk with ⟨kvs, hk⟩ | ⟨kvs, hk⟩
        · obtain ⟨_, _, _, _, o, _, _, e, ex, _⟩ := I.hok p _ hk
          exact ⟨o, e, ex⟩
        · obtain ⟨_, _, _, _, o, _, _, e, ex, _⟩ := I.hok p _ hk
          exact ⟨o, e, ex⟩
      obtain ⟨o, e, ex⟩ := z
      refine ⟨⟨o, e, ex.1⟩, fun a e2 => ?_⟩
      cases e2
      exact ⟨o, e, ex.2.1⟩
    · obtain ⟨o, _, _, _, e, ex, _⟩ := I.hok p _ hk
      refine ⟨⟨o, e, ex.1⟩, fun a e2 => ?_⟩
      cases e2
      exact ⟨o, e, ex.2.1⟩
  | _ => exact False.elim ty
def tBM0 (K : PySem.W.Frag) (T : String) (r : V → List V → Hp → VK → Prop) (to : TE) : TE := fun σ H Q => to σ H fun x H1 => tyV K T x H1 ∧ r x [] H1 Q
def tBM (K : PySem.W.Frag) (T : String) (r : V → List V → Hp → VK → Prop) (to : TE) (t : TA) : TE := fun σ H Q => to σ H fun x H1 => tyV K T x H1 ∧ t σ H1 fun xs H2 => r x xs H2 Q
variable {o e : Expr} {es : List Expr} {to : TE} {t : TA} {name : Str} {apos cpos : Pos} {T id : String} {r : V → List V → Hp → VK → Prop}
theorem pe_bm (pa : PlainAttrs T) (slot : Slot T name id) (hty : typeOf (.builtin id) = pure (.type "method_descriptor")) (hm : MtR X id r) (ho : PE X o to) (ha : PA X (e :: es) t)
    (hbase : attributeBase o name X.env (eval o X.env) = eval o X.env := by rfl)
    (hfew : ((backTo cpos (starEach (e :: es) X.env)).all (fun x => !x.1) && (backToKw cpos (keywordEach [] X.env)).all (fun x => x.1.isSome)
      && decide ((e :: es).length + ([] : List Keyword).length + (if ([] : List Keyword).isEmpty then 0 else 1) < 30)) = true := by rfl)
    (hline : (apos.endLine == cpos.line) = true := by rfl) (hs : starEach (e :: es) X.env = (false, eval e X.env) :: starEach es X.env := by rfl) (hplain : (backTo cpos (starEach es X.env)).any (·.1) = false := by rfl) :
    PE X (.Call (.Attribute o name apos) (e :: es) [] cpos) (tBM X.K T r to t) := by
  intro pins s σ H Q I h
  refine wpAny_Call_method_late hbase hfew hline rfl (thn (ho pins s σ H _ I h) fun v s1 ⟨x, H1, I1, r1, ty, q1⟩ => ?_)
  obtain ⟨h1, h2⟩ := tyV_is I1 r1 ty
  refine ⟨T, id, pa, slot, hty, h1, h2, ?_⟩
  have hA := ha cpos pins s1 σ H1 _ I1 q1
  rw [hs] at hA ⊢
  refine Calls.callWith_builtin (by show (false || (backTo cpos (starEach es X.env)).any (·.1)) = false; rw [hplain] <;> rfl) (Calls.evalArgs_plain ?_)
  exact thn hA fun us s2 ⟨vs, H2, I2, r2, q2⟩ => hm pins s2 σ H2 x vs v us Q I2 r1 r2 q2
/- xs.append(e), list.index on a module's tuple .. are MtR facts of 06m -/
end
end L2

namespace L2
open PySem PySem.Spec PyProof.Rows

def MtM (X : Cx) (id : String) (r : V → List V → Hp → VK → Prop) : Prop :=
  ∀ (pins : List (Addr × Obj)) (s : Shared) (σ : St) (H : Hp) (x : V) (xs : List V) (v : Value) (us : List Value) (Q : VK), Inv X pins σ H s → RelV x v → Vals xs us → r x xs H Q →
    wpAny (model X.prog X.w) X.A (call (.builtin id) (v :: us)) (EP X pins σ Q) X.xe s

/-! ### lists of values -/
theorem Vals.one : ∀ {x : V} {us : List Value}, Vals [x] us → ∃ u, us = [u] ∧ RelV x u
  | _, _, .cons r .nil => ⟨_, rfl, r⟩
section
variable {X : Cx} {pins : List (Addr × Obj)} {σ : St} {H : Hp} {s : Shared} {l b : Addr} {xs ys zs : List V}

/-! ### the two steps: a tracked list is rewritten, a new list is laid -/
theorem Inv.lset {its its' : List Value} {n : Nat} {f : Array Value → Array Value} {t' : Nat} (I : Inv X pins σ H s) (hH : H l = some (.lst xs))
    (e : s.heap.get? l = some { cls := .type "list", data := .seq its.toArray n }) (hf : f its.toArray = its'.toArray) (hv : Vals ys its') (hz : ys.length ≤ sizeLine) :
    Inv X pins σ (upd H l (.lst ys)) { s with heap := s.heap.update l (Obj.mapSeq f), toks := t' } := by
  have q := PySem.IsL.update e f
  rw [hf] at q
  refine I.write (x := l) (e := l) (by rw [hH]; exact trivial) (.inl rfl) (fun b' u hb hu => (Heap.get?_update_other s.heap (Obj.mapSeq f) (Ne.symm hb)).trans hu) ⟨_, q⟩ ?_
  exact ⟨hz, its', _, hv, q⟩
theorem Inv.lnew {its : List Value} {t' : Nat} (I : Inv X pins σ H s) (hv : Vals ys its) (hz : ys.length ≤ sizeLine) :
    Inv X pins σ (upd H s.heap.objs.size (.lst ys)) { s with heap := s.heap.push { cls := .type "list", data := .seq its.toArray }, toks := t' } :=
  I.laid (fun _ _ q => Heap.get?_push_of_some _ q) (Nat.le_refl _) ⟨hz, its, 0, hv, Heap.get?_push_size _ rfl⟩
theorem Inv.fresh (I : Inv X pins σ H s) : H s.heap.objs.size = none := I.hok.fresh (Nat.le_refl _)
theorem Inv.lstM (I : Inv X pins σ H s) (hH : H l = some (.lst xs)) : xs.length ≤ sizeLine ∧ ∃ (its : List Value) (n : Nat), Vals xs its ∧ xs.length = its.length ∧ s.heap.get? l = some { cls := .type "list", data := .seq its.toArray n } := by
  obtain ⟨z, its, n, r, e⟩ := I.hok l _ hH
  exact ⟨z, its, n, r, r.length, e⟩

theorem notLongL {n : Nat} (h : n ≤ sizeLine) : Builtin.List.listTooLong n = false := by
  unfold Builtin.List.listTooLong
  exact decide_eq_false (by omega)
end

section
variable {X : Cx}

/-! ### methods -/
def rAppend : V → List V → Hp → VK → Prop := fun x vs H Q => ∃ l xs y, x = .ref l ∧ vs = [y] ∧ H l = some (.lst xs) ∧ xs.length < sizeLine ∧ Q .non (upd H l (.lst (xs ++ [y])))
theorem mt_append : MtM X "list.append" rAppend := by
  intro pins s σ H x vs v us Q I rx rv h
  obtain ⟨l, xs, y, rfl, rfl, hH, hz, q⟩ := h
  cases rx
  obtain ⟨u, rfl, ru⟩ := rv.one
  obtain ⟨z, its, n, r, hl, e⟩ := I.lstM hH
  refine call_meets F.slot_list_append ⟨_, e, rfl⟩ F.entry_list_append (F.args_list_append_2 _ _) (PySem.list_append l its.toArray n u (by rw [List.size_toArray]; omega)) ⟨e, ?_⟩
  refine ⟨.non, _, I.lset (its' := its ++ [u]) hH e (by simp) (r.append (.cons ru .nil)) ?_, rfl, q⟩
  rw [List.length_append, List.length_singleton]
  omega

def rExtend : V → List V → Hp → VK → Prop := fun x vs H Q => ∃ l b xs zs, x = .ref l ∧ vs = [.ref b] ∧ H l = some (.lst xs) ∧ H b = some (.lst zs) ∧ xs.length + zs.length ≤ sizeLine ∧ Q .non (upd H l (.lst (xs ++ zs)))
theorem mt_extend : MtM X "list.extend" rExtend := by
  intro pins s σ H x vs v us Q I rx rv h
  obtain ⟨l, b, xs, zs, rfl, rfl, hH, hB, hz, q⟩ := h
  cases rx
  obtain ⟨u, rfl, ru⟩ := rv.one
  cases ru
  obtain ⟨z, its, n, r, hl, e⟩ := I.lstM hH
  obtain ⟨z2, its2, n2, r2, hl2, e2⟩ := I.lstM hB
  have hsz : its.toArray.size + its2.toArray.size ≤ sizeLine := by rw [List.size_toArray, List.size_toArray]; omega
  have hlong : ¬ (!its.toArray.isEmpty && Builtin.List.listTooLong (its.toArray.size + its2.toArray.size)) = true := by
    rw [notLongL hsz, Bool.and_false]
    exact Bool.false_ne_true
  refine call_meets F.slot_list_extend ⟨_, e, rfl⟩ F.entry_list_extend (F.args_list_extend_2 _ _)
    (AutoSeq1.list_extend_list_list_0 l its.toArray n b its2.toArray n2 hlong (by rw [List.size_toArray]; omega) (by omega)) ⟨e, e2, ?_⟩
  refine ⟨.non, _, I.lset (its' := its ++ its2) hH e (by simp) (r.append r2) ?_, rfl, q⟩
  rw [List.length_append]
  omega

def rPop : V → List V → Hp → VK → Prop := fun x vs H Q => ∃ l xs y, x = .ref l ∧ vs = [] ∧ H l = some (.lst xs) ∧ xs[xs.length - 1]? = some y ∧ Q y (upd H l (.lst xs.dropLast))
def rPopAt : V → List V → Hp → VK → Prop := fun x vs H Q => ∃ l xs i k y, x = .ref l ∧ vs = [.int i] ∧ H l = some (.lst xs) ∧ -(2 ^ 63) ≤ i ∧ i < 2 ^ 63 ∧ seqIndex? i xs.length = some k ∧ xs[k]? = some y ∧ Q y (upd H l (.lst (xs.eraseIdx k)))
def rReverse : V → List V → Hp → VK → Prop := fun x vs H Q => ∃ l xs, x = .ref l ∧ vs = [] ∧ H l = some (.lst xs) ∧ Q .non (upd H l (.lst xs.reverse))
def rClear : V → List V → Hp → VK → Prop := fun x vs H Q => ∃ l xs, x = .ref l ∧ vs = [] ∧ H l = some (.lst xs) ∧ Q .non (upd H l (.lst []))
/-! ### list + list, list += list, list * int -/
def rCat : R2 := fun x y H Q => ∃ l b xs zs, x = .ref l ∧ y = .ref b ∧ H l = some (.lst xs) ∧ H b = some (.lst zs) ∧ xs.length + zs.length ≤ sizeLine ∧ ∀ p, H p = none → Q (.ref p) (upd H p (.lst (xs ++ zs)))
theorem op_cat : OpR X (binaryOp .Add) rCat := by
  intro pins s σ H x y v u Q I rx ry h
  obtain ⟨l, b, xs, zs, rfl, rfl, hH, hB, hz, q⟩ := h
  cases rx
  cases ry
  obtain ⟨z, its, n, r, hl, e⟩ := I.lstM hH
  obtain ⟨z2, its2, n2, r2, hl2, e2⟩ := I.lstM hB
  refine PySem.P.add_list e e2 ?_ (by rw [List.size_toArray, List.size_toArray]; omega)
  have ea : its.toArray ++ its2.toArray = (its ++ its2).toArray := by simp
  rw [ea]
  exact ⟨.ref _, _, I.lnew (t' := s.toks) (r.append r2) (by rw [List.length_append]; omega), rfl, q _ I.fresh⟩
/-- a list times an int (a negative one is nothing) -/
def rRep : R2 := fun x y H Q => ∃ l k xs, x = .ref l ∧ y = .int k ∧ H l = some (.lst xs) ∧ -(2 ^ 63) ≤ k ∧ k < 2 ^ 63 ∧ xs.length * k.toNat ≤ sizeLine ∧
  ∀ p, H p = none → Q (.ref p) (upd H p (.lst (List.replicate k.toNat xs).flatten))
/-! ### del xs[i] -/
end

/-! ### xs[a:b] = ys -/
section
variable {prog : Program} {w : World} {A : Around} {E : Value → Shared → Prop} {s : Shared}
end

section
variable {X : Cx}
end
end L2

namespace L2
open PySem PySem.Spec PyProof.Rows

theorem Vals.ints : ∀ {ns : List Int} {us : List Value}, Vals (ns.map V.int) us → IntsAre us ns
  | [], us, h => by
    rw [List.map_nil] at h
    cases h
    exact IntsAre.nil
  | n :: ns, us, h => by
    rw [List.map_cons] at h
    cases h with
    | cons r t =>
      obtain ⟨k, rfl⟩ := r
      exact IntsAre.cons n k (Vals.ints t)
theorem Vals.ref1 {a : Addr} {us : List Value} (r : Vals [V.ref a] us) : us = [Value.ref a] := by
  cases r with
  | cons r t =>
    cases t
    cases r
    rfl
/-! ### the library's walks over a list of ints, kept objects alone -/
section
variable {prog : Program} {w : World} {A : Around} {E : Value → Shared → Prop} {s : Shared} {l : Addr} {its : List Value} {ns : List Int} {Q : Value → Shared → Prop}
theorem sum_raw (hh : A.handled = none) (hl : s.heap.IsList l its.toArray) (hi : IntsAre its ns)
    (h : ∀ h' tk t', (∀ b o, s.heap.get? b = some o → h'.get? b = some o) → Q (.int ns.sum t') { s with heap := h', toks := tk }) : wpAny (model prog w) A (call (.builtin "sum") [.ref l]) Q E s := by
  obtain ⟨xs, e⟩ := hi.allInts.items
  have hn : numsOf (intItems xs).toList = ns := by rw [← e]; exact hi.numsOf
  rw [nums_intItems] at hn
  rw [e] at hl
  refine PySem.sum_intListG hh hl fun h' tk t' hk => ?_
  have := h h' tk t' hk
  rw [preSum_eq, List.take_of_length_le (by simp), hn]; exact this
theorem max_raw (hh : A.handled = none) (hl : s.heap.IsList l its.toArray) (hi : IntsAre its ns) (hne : 0 < ns.length)
    (h : ∀ h' tk M t', (∀ b o, s.heap.get? b = some o → h'.get? b = some o) → M ∈ ns → (∀ a, a ∈ ns → a ≤ M) → Q (.int M t') { s with heap := h', toks := tk }) : wpAny (model prog w) A (call (.builtin "max") [.ref l]) Q E s := by
  obtain ⟨xs, e⟩ := hi.allInts.items
  have hn : numsOf (intItems xs).toList = ns := by rw [← e]; exact hi.numsOf
  rw [nums_intItems] at hn
  subst hn
  rw [e] at hl
  have hsz : 0 < xs.size := by simpa using hne
  refine PySem.max_intList hh hl hsz fun v h' tk hv hk => ?_
  obtain ⟨t, rfl⟩ := intItems_at hv
  obtain ⟨h1, h2⟩ := argBest_gt (numAt xs) (xs.size - 1)
  refine h h' tk _ t hk ?_ fun a ha => ?_
  · rw [numAt_eq]; exact PySem.getD_mem (by rw [List.length_map, Array.length_toList]; omega)
  · obtain ⟨j, hj, rfl⟩ := mem_getD ha
    rw [List.length_map, Array.length_toList] at hj
    rw [← numAt_eq]; exact h2 j (by omega)
theorem min_raw (hh : A.handled = none) (hl : s.heap.IsList l its.toArray) (hi : IntsAre its ns) (hne : 0 < ns.length)
    (h : ∀ h' tk M t', (∀ b o, s.heap.get? b = some o → h'.get? b = some o) → M ∈ ns → (∀ a, a ∈ ns → M ≤ a) → Q (.int M t') { s with heap := h', toks := tk }) : wpAny (model prog w) A (call (.builtin "min") [.ref l]) Q E s := by
  obtain ⟨xs, e⟩ := hi.allInts.items
  have hn : numsOf (intItems xs).toList = ns := by rw [← e]; exact hi.numsOf
  rw [nums_intItems] at hn
  subst hn
  rw [e] at hl
  have hsz : 0 < xs.size := by simpa using hne
  refine PySem.min_intList hh hl hsz fun v h' tk hv hk => ?_
  obtain ⟨t, rfl⟩ := intItems_at hv
  obtain ⟨h1, h2⟩ := argBest_lt (numAt xs) (xs.size - 1)
  refine h h' tk _ t hk ?_ fun a ha => ?_
  · rw [numAt_eq]; exact PySem.getD_mem (by rw [List.length_map, Array.length_toList]; omega)
  · obtain ⟨j, hj, rfl⟩ := mem_getD ha
    rw [List.length_map, Array.length_toList] at hj
    rw [← numAt_eq]; exact h2 j (by omega)
end

/-! ### the calls, by values (CallR of 03t; MtR of 06l) -/
section
variable {X : Cx}
/-- sum(xs) of a list of ints -/
def rSum (K : PySem.W.Frag) : List V → Hp → VK → Prop := fun vs H Q => ∃ (a : Addr) (ns : List Int), vs = [V.ref a] ∧ SqL K H a (ns.map V.int) ∧ Q (.int ns.sum) H
/-- max(xs), min(xs) of a list of ints -/
def rMax (K : PySem.W.Frag) : List V → Hp → VK → Prop := fun vs H Q => ∃ (a : Addr) (ns : List Int), vs = [V.ref a] ∧ SqL K H a (ns.map V.int) ∧ 0 < ns.length ∧ ∀ m, m ∈ ns → (∀ y, y ∈ ns → y ≤ m) → Q (.int m) H
def rMin (K : PySem.W.Frag) : List V → Hp → VK → Prop := fun vs H Q => ∃ (a : Addr) (ns : List Int), vs = [V.ref a] ∧ SqL K H a (ns.map V.int) ∧ 0 < ns.length ∧ ∀ m, m ∈ ns → (∀ y, y ∈ ns → m ≤ y) → Q (.int m) H
theorem cr_sum (hc : X.calm = true) : CallR X (.builtin "sum") (rSum X.K) := by
  intro pins s σ H vs us Q I r h
  obtain ⟨a, ns, rfl, hs, q⟩ := h
  obtain ⟨its, rv, hl, _⟩ := I.list hs
  rw [Vals.ref1 r]
  exact sum_raw (I.ok.hd hc) hl.isList rv.ints fun h' tk t' hk => ⟨.int _, H, I.kept hk, ⟨_, rfl⟩, q⟩
theorem cr_max (hc : X.calm = true) : CallR X (.builtin "max") (rMax X.K) := by
  intro pins s σ H vs us Q I r h
  obtain ⟨a, ns, rfl, hs, hne, q⟩ := h
  obtain ⟨its, rv, hl, _⟩ := I.list hs
  rw [Vals.ref1 r]
  exact max_raw (I.ok.hd hc) hl.isList rv.ints hne fun h' tk m t' hk h1 h2 => ⟨.int _, H, I.kept hk, ⟨_, rfl⟩, q m h1 h2⟩
theorem cr_min (hc : X.calm = true) : CallR X (.builtin "min") (rMin X.K) := by
  intro pins s σ H vs us Q I r h
  obtain ⟨a, ns, rfl, hs, hne, q⟩ := h
  obtain ⟨its, rv, hl, _⟩ := I.list hs
  rw [Vals.ref1 r]
  exact min_raw (I.ok.hd hc) hl.isList rv.ints hne fun h' tk m t' hk h1 h2 => ⟨.int _, H, I.kept hk, ⟨_, rfl⟩, q m h1 h2⟩

/-! sorted, sort (fewer than 64 items: the library's own bound) -/
def rSorted (K : PySem.W.Frag) : List V → Hp → VK → Prop := fun vs H Q => ∃ (a : Addr) (ns : List Int), vs = [V.ref a] ∧ SqL K H a (ns.map V.int) ∧ ns.length < 64 ∧
  ∀ (ns' : List Int) (p : Addr), ns'.Perm ns → ns'.Pairwise (· ≤ ·) → H p = none → Q (.ref p) (upd H p (.lst (ns'.map V.int)))
def rSortedS (K : PySem.W.Frag) : List V → Hp → VK → Prop := fun vs H Q => ∃ (a : Addr) (xs : List Str), vs = [V.ref a] ∧ SqL K H a (xs.map V.str) ∧ xs.length < 64 ∧
  ∀ (ys : List Str) (p : Addr), ys.Perm xs → sortedS ys = true → H p = none → Q (.ref p) (upd H p (.lst (ys.map V.str)))
/-- xs.sort(), ints -/
def rSort : V → List V → Hp → VK → Prop := fun x xs H Q => ∃ (a : Addr) (ns : List Int), x = V.ref a ∧ xs = [] ∧ H a = some (.lst (ns.map V.int)) ∧ ns.length < 64 ∧
  ∀ ns' : List Int, ns'.Perm ns → ns'.Pairwise (· ≤ ·) → Q .non (upd H a (.lst (ns'.map V.int)))
end

/-! ### list.index, flat items -/
section
variable {X : Cx}
def rIndex (K : PySem.W.Frag) : V → List V → Hp → VK → Prop := fun x xs H Q => ∃ (a : Addr) (ys : List V) (y : V) (j : Nat) (z : V), x = V.ref a ∧ xs = [y] ∧ SqL K H a ys ∧ flatV y = true ∧ ys.all flatV = true ∧ ys[j]? = some z ∧ eqV z y = true ∧
  (∀ (m : Nat) (z' : V), m < j → ys[m]? = some z' → eqV z' y = false) ∧ Q (.int (j : Nat)) H
end

/-! ### type(x) of an own instance; is, is not of a module's class -/
section
variable {X : Cx}
end

/-! ### any(xs), all(xs) of a list of bools -/
section
variable {X : Cx}
def rAny (K : PySem.W.Frag) : List V → Hp → VK → Prop := fun vs H Q => ∃ (a : Addr) (bs : List Bool), vs = [V.ref a] ∧ SqL K H a (bs.map V.bl) ∧ Q (.bl (bs.any id)) H
def rAll (K : PySem.W.Frag) : List V → Hp → VK → Prop := fun vs H Q => ∃ (a : Addr) (bs : List Bool), vs = [V.ref a] ∧ SqL K H a (bs.map V.bl) ∧ Q (.bl (bs.all id)) H
end

/-! ### == and != of data at any depth: none, bools, ints, texts, lists, tuples -/
mutual
inductive Dp (K : PySem.W.Frag) (H : Hp) : V → PyData → Prop
  | non : Dp K H .non .none
  | bl (b : Bool) : Dp K H (.bl b) (.bool b)
  | int (i : Int) : Dp K H (.int i) (.int i)
  | str (x : Str) : Dp K H (.str x) (.str x)
  | lst {a : Addr} {xs : List V} {ds : List PyData} : SqL K H a xs → DpAll K H xs ds → Dp K H (.ref a) (.list ds)
  | tup {a : Addr} {xs : List V} {ds : List PyData} : SqT K H a xs → DpAll K H xs ds → Dp K H (.ref a) (.tuple ds)
inductive DpAll (K : PySem.W.Frag) (H : Hp) : List V → List PyData → Prop
  | nil : DpAll K H [] []
  | cons {v : V} {vs : List V} {d : PyData} {ds : List PyData} : Dp K H v d → DpAll K H vs ds → DpAll K H (v :: vs) (d :: ds)
end
section
variable {X : Cx} {pins : List (Addr × Obj)} {σ : St} {H : Hp} {s : Shared}
mutual
theorem Dp.reads (I : Inv X pins σ H s) : ∀ (d : PyData) (v : V) (u : Value), Dp X.K H v d → RelV v u → ∃ as, Reads s.heap u d as
  | .none, _, _, h, r => by
    cases h
    cases r
    exact ⟨_, Reads.none⟩
  | .bool b, _, _, h, r => by
    cases h
    cases r
    exact ⟨_, Reads.bool b⟩
  | .int i, _, _, h, r => by
    cases h
    obtain ⟨t, rfl⟩ := r
    exact ⟨_, Reads.int i t⟩
  | .str x, _, _, h, r => by
    cases h
    obtain ⟨t, rfl⟩ := r
    exact ⟨_, Reads.str x t⟩
  | .list ds, _, _, h, r => by
    cases h with
    | lst hs ha =>
      cases r
      obtain ⟨its, rv, ⟨o, n, ho, hc, _, hd⟩, _⟩ := I.list hs
      obtain ⟨as, hr⟩ := Dp.readsAll I ds _ its ha rv
      exact ⟨_, Reads.list ho hc hd hr⟩
  | .tuple ds, _, _, h, r => by
    cases h with
    | tup hs ha =>
      cases r
      obtain ⟨its, rv, ⟨o, ho, hc, n, hd⟩, _⟩ := I.tuple hs
      obtain ⟨as, hr⟩ := Dp.readsAll I ds _ its ha rv
      exact ⟨_, Reads.tuple ho hc hd hr⟩
  | .dict _, _, _, h, _ => by cases h
theorem Dp.readsAll (I : Inv X pins σ H s) : ∀ (ds : List PyData) (vs : List V) (us : List Value), DpAll X.K H vs ds → Vals vs us → ∃ as, ReadsAll s.heap us ds as
  | [], _, _, h, r => by
    cases h
    cases r
    exact ⟨_, ReadsAll.nil⟩
  | d :: ds, _, _, h, r => by
    cases h with
    | cons h1 h2 =>
      cases r with
      | cons r1 r2 =>
        obtain ⟨as, q1⟩ := Dp.reads I d _ _ h1 r1
        obtain ⟨bs, q2⟩ := Dp.readsAll I ds _ _ h2 r2
        exact ⟨_, ReadsAll.cons q1 q2⟩
end
end
section
variable {X : Cx}
def rEqD (K : PySem.W.Frag) : R2 := fun x y H Q => ∃ d e, Dp K H x d ∧ Dp K H y e ∧ SeqAt.shaped d = true ∧ SeqAt.shaped e = true ∧ Q (.bl (PyData.eqv d e)) H
def rNeD (K : PySem.W.Frag) : R2 := fun x y H Q => ∃ d e, Dp K H x d ∧ Dp K H y e ∧ SeqAt.shaped d = true ∧ SeqAt.shaped e = true ∧ Q (.bl (!PyData.eqv d e)) H
theorem op_eqD (hu : X.A.units + 64 < cLine) : OpR X (compareOp .Eq) (rEqD X.K) := by
  intro pins s σ H x y v u Q I rx ry h
  obtain ⟨d, e, hd, he, sd, se, q⟩ := h
  obtain ⟨as, r1⟩ := Dp.reads I d x v hd rx
  obtain ⟨bs, r2⟩ := Dp.reads I e y u he ry
  exact SeqAt.compareEq_shaped r1 r2 sd se hu ⟨.bl _, H, I, rfl, q⟩
end
end L2

namespace L2
open PySem PySem.Spec PyProof.Rows
abbrev CellAt (h : Heap) (c : Addr) (v : Option Value) : Prop := h.IsCell c v
def relS (scope sc : Scope) : Scope :=
  { scope with names := scope.names.map fun (n, k) => if (k == .free && sc.kind == .function && sc.names.lookup n == some .cell) then (n, .cell) else (n, k) }

def cloFrom (cells : List (Str × Addr)) : List (Str × NameKind) → List (Str × Addr) → List (Str × Addr)
  | [], acc => acc
  | (n, k) :: r, acc => if k == .free then cloFrom cells r ((n, (cells.lookup n).getD 0) :: acc) else cloFrom cells r acc

theorem closure_loop (env : Env) (f : Str × NameKind → List (Str × Addr) → Sem (ForInStep (List (Str × Addr))))
    (hf : ∀ n k c, f (n, k) c = if k == .free then (do let a ← cellOf env n; pure (.yield ((n, a) :: c))) else pure (.yield c)) :
    ∀ (names : List (Str × NameKind)) (acc : List (Str × Addr)), (∀ y ∈ names, y.2 = .free → ∃ c, env.cells.lookup y.1 = some c) → forIn names acc f = pure (cloFrom env.cells names acc)
  | [], acc, _ => by rw [List.forIn_nil]; rfl
  | (n, k) :: r, acc, h => by
    rw [List.forIn_cons, hf]
    have ih := fun acc => closure_loop env f hf r acc fun y hy => h y (List.mem_cons_of_mem _ hy)
    unfold cloFrom
    by_cases hk : (k == NameKind.free) = true
    · rw [if_pos hk, if_pos hk]
      obtain ⟨c, hc⟩ := h (n, k) List.mem_cons_self (by simpa using hk)
      have e : cellOf env n = pure c := by unfold cellOf; rw [hc]
      rw [e]
      have e2 : (env.cells.lookup n).getD 0 = c := by rw [hc]; rfl
      rw [e2]
      exact ih _
    · rw [if_neg hk, if_neg hk]
      exact ih _
theorem closure_ok {scope : Scope} {env : Env} (h : ∀ y ∈ scope.names, y.2 = .free → ∃ c, env.cells.lookup y.1 = some c) : closureFor scope env = pure (cloFrom env.cells scope.names []) := by
  simp only [closureFor]
  rw [closure_loop env _ (fun n k c => rfl) scope.names [] h]
  rfl

theorem mem_lookup {α : Type} : ∀ {l : List (Str × α)} {n : Str} {c : α}, (n, c) ∈ l → ∃ c', l.lookup n = some c'
  | (k, v) :: r, n, c, h => by
    rw [List.lookup_cons]
    cases hb : n == k with
    | true => exact ⟨_, rfl⟩
    | false =>
      rcases List.mem_cons.mp h with e | h
      · cases e; simp at hb
      · exact mem_lookup h

theorem cloFrom_mem {cells : List (Str × Addr)} : ∀ {names : List (Str × NameKind)} {acc : List (Str × Addr)} {n : Str} {c : Addr}, (n, c) ∈ cloFrom cells names acc → (n, c) ∈ acc ∨ ((n, .free) ∈ names ∧ c = (cells.lookup n).getD 0)
  | [], _, _, _, h => .inl h
  | (m, k) :: r, acc, n, c, h => by
    unfold cloFrom at h
    split at h
    · rename_i hk
      have hk : k = .free := by simpa using hk
      rcases cloFrom_mem h with h | ⟨h1, h2⟩
      · rcases List.mem_cons.mp h with e | h
        · cases e; exact .inr ⟨hk ▸ List.mem_cons_self, rfl⟩
        · exact .inl h
      · exact .inr ⟨List.mem_cons_of_mem _ h1, h2⟩
    · rcases cloFrom_mem h with h | ⟨h1, h2⟩
      · exact .inl h
      · exact .inr ⟨List.mem_cons_of_mem _ h1, h2⟩
theorem cloFrom_acc {cells : List (Str × Addr)} : ∀ {names : List (Str × NameKind)} {acc : List (Str × Addr)} {p : Str × Addr}, p ∈ acc → p ∈ cloFrom cells names acc
  | [], _, _, h => h
  | (m, k) :: r, acc, p, h => by
    unfold cloFrom
    split
    · exact cloFrom_acc (List.mem_cons_of_mem _ h)
    · exact cloFrom_acc h
theorem cloFrom_has {cells : List (Str × Addr)} : ∀ {names : List (Str × NameKind)} {acc : List (Str × Addr)} {n : Str}, (n, .free) ∈ names → (n, (cells.lookup n).getD 0) ∈ cloFrom cells names acc
  | (m, k) :: r, acc, n, h => by
    unfold cloFrom
    rcases List.mem_cons.mp h with e | h
    · cases e
      exact cloFrom_acc List.mem_cons_self
    · split
      · exact cloFrom_has h
      · exact cloFrom_has h

theorem cells_mem : ∀ {names : List (Str × NameKind)} {h : Heap} {acc : List (Str × Addr)} {x : Str} {c : Addr}, (x, c) ∈ cellsFrom h.objs.size names acc →
    (x, c) ∈ acc ∨ ((x, .cell) ∈ names ∧ h.objs.size ≤ c ∧ CellAt (pushCells h names) c none)
  | [], _, _, _, _, h => .inl h
  | (n, k) :: r, h, acc, x, c, hm => by
    unfold cellsFrom at hm
    unfold pushCells
    split at hm
    · rename_i hk
      rw [if_pos hk]
      have hk : k = .cell := by simpa using hk
      rw [← Heap.size_push h { cls := .type "cell", data := .cell none }] at hm
      rcases cells_mem hm with hm | ⟨h1, h2, h3⟩
      · rcases List.mem_cons.mp hm with e | hm
        · cases e
          exact .inr ⟨hk ▸ List.mem_cons_self, Nat.le_refl _, _, pushCells_keeps r _ _ _ (Heap.get?_push_size _ rfl), rfl⟩
        · exact .inl hm
      · rw [Heap.size_push] at h2
        exact .inr ⟨List.mem_cons_of_mem _ h1, Nat.le_of_succ_le h2, h3⟩
    · rename_i hk
      rw [if_neg hk]
      rcases cells_mem hm with hm | ⟨h1, h2, h3⟩
      · exact .inl hm
      · exact .inr ⟨List.mem_cons_of_mem _ h1, h2, h3⟩
theorem cells_acc : ∀ {names : List (Str × NameKind)} {n : Nat} {acc : List (Str × Addr)} {p : Str × Addr}, p ∈ acc → p ∈ cellsFrom n names acc
  | [], _, _, _, h => h
  | (m, k) :: r, n, acc, p, h => by
    unfold cellsFrom
    split
    · exact cells_acc (List.mem_cons_of_mem _ h)
    · exact cells_acc h
theorem cells_has : ∀ {names : List (Str × NameKind)} {n : Nat} {acc : List (Str × Addr)} {x : Str}, (x, .cell) ∈ names → ∃ c, (x, c) ∈ cellsFrom n names acc
  | (m, k) :: r, n, acc, x, h => by
    unfold cellsFrom
    rcases List.mem_cons.mp h with e | h
    · cases e
      exact ⟨n, cells_acc List.mem_cons_self⟩
    · split
      · exact cells_has h
      · exact cells_has h
theorem cells_inj : ∀ {names : List (Str × NameKind)} {h : Heap} {acc : List (Str × Addr)} {x y : Str} {c : Addr}, (∀ p ∈ acc, p.2 < h.objs.size) → (∀ x y c, (x, c) ∈ acc → (y, c) ∈ acc → x = y) →
    (x, c) ∈ cellsFrom h.objs.size names acc → (y, c) ∈ cellsFrom h.objs.size names acc → x = y
  | [], _, _, _, _, _, _, hi, h1, h2 => hi _ _ _ h1 h2
  | (n, k) :: r, h, acc, x, y, c, hl, hi, h1, h2 => by
    unfold cellsFrom at h1 h2
    split at h1
    · rename_i hk
      rw [if_pos hk] at h2
      rw [← Heap.size_push h { cls := .type "cell", data := .cell none }] at h1 h2
      refine cells_inj (h := h.push _) (fun p hp => ?_) (fun x y c a b => ?_) h1 h2
      · rw [Heap.size_push]
        rcases List.mem_cons.mp hp with rfl | hp
        · exact Nat.lt_succ_self _
        · exact Nat.lt_succ_of_lt (hl p hp)
      · rcases List.mem_cons.mp a with e | a <;> rcases List.mem_cons.mp b with e' | b
        · cases e; cases e'; rfl
        · cases e; exact absurd (hl _ b) (Nat.lt_irrefl _)
        · cases e'; exact absurd (hl _ a) (Nat.lt_irrefl _)
        · exact hi _ _ _ a b
    · rename_i hk
      rw [if_neg hk] at h2
      exact cells_inj hl hi h1 h2

theorem newEnv_comp {M : Model} {A : Around} {E : Value → Shared → Prop} {s : Shared} {scope : Scope} {globals : Addr} {closure : List (Str × Addr)} {qual : Str} {func : Option Addr} {code : Value} {around : Env} {builtins : Addr} {Q : Env → Shared → Prop}
    (h : Q (newEnv scope s.heap.objs.size globals (cellsFrom (s.heap.objs.size + 1) scope.names closure) qual func code (some around) builtins)
      { s with heap := pushCells (s.heap.push { cls := .type "dict", data := .dict #[] }) scope.names }) :
    wpAny M A (newFunctionEnv scope globals closure [] qual func code (some around) builtins) Q E s := by
  simp only [newFunctionEnv, Option.isSome_some, if_true]
  refine wpAny_bind (wpAny_alloc ?_)
  refine wpAny_bind (wpAny_layCells _ (fun n k c => rfl) scope.names closure _ _ ?_)
  rw [show ({ s with heap := s.heap.push { cls := .type "dict", data := .dict #[] } } : Shared).heap.objs.size = s.heap.objs.size + 1 from Heap.size_push ..]
  rw [List.forIn_nil]
  exact wpAny_bind (wpAny_pure (wpAny_pure h))

/-- every name of the written scope, in the scope that runs -/
theorem lookup_relS {sc : Scope} : ∀ {names : List (Str × NameKind)} {x : Str} {k : NameKind},
    (names.map fun (n, k) => if (k == NameKind.free && sc.kind == .function && sc.names.lookup n == some .cell) then (n, NameKind.cell) else (n, k)).lookup x = some k →
    ∃ k', names.lookup x = some k' ∧ (k = k' ∨ (k' = .free ∧ k = .cell))
  | [], _, _, h => by simp at h
  | (n, k₀) :: r, x, k, h => by
    have ih := @lookup_relS sc r x k
    have h' : List.lookup x ((if (k₀ == NameKind.free && sc.kind == .function && sc.names.lookup n == some .cell) = true then (n, NameKind.cell) else (n, k₀)) :: (r.map _)) = some k := h
    cases hx : x == n with
    | true =>
      simp only [List.lookup_cons, hx]
      by_cases hc : (k₀ == NameKind.free && sc.kind == .function && sc.names.lookup n == some .cell) = true
      · rw [if_pos hc] at h'
        simp only [List.lookup_cons, hx] at h'
        cases h'
        simp only [Bool.and_eq_true, beq_iff_eq] at hc
        exact ⟨k₀, rfl, .inr ⟨hc.1.1, rfl⟩⟩
      · rw [if_neg hc] at h'
        simp only [List.lookup_cons, hx] at h'
        cases h'
        exact ⟨_, rfl, .inl rfl⟩
    | false =>
      simp only [List.lookup_cons, hx]
      by_cases hc : (k₀ == NameKind.free && sc.kind == .function && sc.names.lookup n == some .cell) = true
      · rw [if_pos hc] at h'
        simp only [List.lookup_cons, hx] at h'
        exact ih h'
      · rw [if_neg hc] at h'
        simp only [List.lookup_cons, hx] at h'
        exact ih h'
/-- the names of a comprehension's block: its own (with their places in N), or captured -/
structure BlkOk (N : List Str) (sc scope : Scope) (own : List (Str × Nat)) : Prop where
  kind : scope.kind = .function
  uniq : ∀ y ∈ scope.names, scope.names.lookup y.1 = some y.2
  ix : ∀ p ∈ own, N[p.2]? = some p.1
  free : ∀ y ∈ scope.names, y.2 = .free → sc.names.lookup y.1 = some .cell ∨ sc.names.lookup y.1 = some .free
  own : ∀ y ∈ scope.names, y.2 = .local ∨ y.2 = .cell → y.1 ∈ own.map (·.1) ∨ y.1 ∉ N
/-- the slots of the block's own names forgotten -/
def wipe (σ : St) : List Nat → St
  | [] => σ
  | v :: vs => (wipe σ vs).set v none
theorem wipe_length (σ : St) : ∀ vs : List Nat, (wipe σ vs).length = σ.length
  | [] => rfl
  | v :: vs => by unfold wipe; rw [List.length_set, wipe_length σ vs]
theorem wipe_some {σ : St} {i : Nat} {x : V} : ∀ {vs : List Nat}, (wipe σ vs)[i]? = some (some x) → σ[i]? = some (some x) ∧ i ∉ vs
  | [], h => ⟨h, by simp⟩
  | v :: vs, h => by
    unfold wipe at h
    by_cases hi : v = i
    · subst hi
      by_cases hv : v < (wipe σ vs).length
      · rw [List.getElem?_set_self hv] at h; cases h
      · rw [List.getElem?_eq_none (by simpa using hv)] at h; cases h
    · rw [List.getElem?_set_ne hi] at h
      obtain ⟨h1, h2⟩ := wipe_some h
      exact ⟨h1, by simp only [List.mem_cons, not_or]; exact ⟨fun e => hi e.symm, h2⟩⟩

/-- the context of a block that starts at s, its iterator's objects at fp -/
abbrev Cx.blk (X : Cx) (s : Shared) (H : Hp) (scope : Scope) (cenv : Env) (fp : List Addr) : Cx := { X with s_0 := s, H_0 := H, env := cenv, outer := X.stack, ex := fp, fn := fun x => scope.names.lookup x == some .cell, pn := [], xe := fun _ _ => False }
section
variable {X : Cx} {pins : List (Addr × Obj)} {σ : St} {H : Hp} {s : Shared}
theorem block_start {scope : Scope} {own : List (Str × Nat)} {fp : List Addr} (I : Inv X pins σ H s) (ok : BlkOk X.N X.env.scope scope own) (hN : X.N.Nodup) (hfp : ∀ b ∈ fp, FpOk X pins H b ∧ b < s.heap.objs.size) :
    Inv (X.blk s H scope (compEnvC scope (cellsFrom (s.heap.objs.size + 1) scope.names (cloFrom X.env.cells scope.names [])) s.heap.objs.size X.env) fp) [] (wipe σ (own.map (·.2))) H { s with heap := pushCells (s.heap.push { cls := .type "dict", data := .dict #[] }) scope.names } := by
  have hfree : ∀ y ∈ scope.names, y.2 = .free → ∃ c, X.env.cells.lookup y.1 = some c := fun y hy e => by
    rcases ok.free y hy e with k | k
    · exact I.ok.has _ (.inl k)
    · exact I.ok.has _ (.inr k)
  generalize hcenv : compEnvC scope (cellsFrom (s.heap.objs.size + 1) scope.names (cloFrom X.env.cells scope.names [])) s.heap.objs.size X.env = cenv
  have kp : ∀ b o, s.heap.get? b = some o → (pushCells (s.heap.push { cls := .type "dict", data := .dict #[] }) scope.names).get? b = some o := fun b o e => pushCells_keeps _ _ _ _ (Heap.get?_push_of_some _ e)
  have hL : cenv.locals = s.heap.objs.size := by rw [← hcenv]; rfl
  have hcl : cenv.cells = cellsFrom (s.heap.objs.size + 1) scope.names (cloFrom X.env.cells scope.names []) := by rw [← hcenv]; rfl
  have hsc : cenv.scope = relS scope X.env.scope := by rw [← hcenv]; rfl
  rw [← Heap.size_push s.heap { cls := .type "dict", data := .dict #[] }] at hcl
  have cm : ∀ {y c}, (y, c) ∈ cloFrom X.env.cells scope.names [] → X.env.cells.lookup y = some c ∧ c < s.heap.objs.size := fun {y c} hm => by
    rcases cloFrom_mem hm with hm | ⟨h1, rfl⟩
    · cases hm
    · obtain ⟨c, hc⟩ := hfree _ h1 rfl
      rw [hc]
      obtain ⟨w, z⟩ := I.cell _ _ hc
      exact ⟨rfl, z.lt⟩
  have mem : ∀ {y c}, cenv.cells.lookup y = some c → (X.env.cells.lookup y = some c ∧ c < s.heap.objs.size) ∨ (s.heap.objs.size + 1 ≤ c ∧ CellAt (pushCells (s.heap.push { cls := .type "dict", data := .dict #[] }) scope.names) c none) := fun {y c} e => by
    rw [hcl] at e
    rcases cells_mem (PySem.mem_of_lookup e) with hm | ⟨_, h2, h3⟩
    · exact .inl (cm hm)
    · rw [Heap.size_push] at h2; exact .inr ⟨h2, h3⟩
  have look : ∀ {y}, scope.names.lookup y = some .free → ∃ c, cenv.cells.lookup y = some c ∧ X.env.cells.lookup y = some c := fun {y} hl => by
    have hy : (y, NameKind.free) ∈ scope.names := PySem.mem_of_lookup hl
    obtain ⟨c', e'⟩ := mem_lookup (cells_acc (names := scope.names) (n := (s.heap.push { cls := .type "dict", data := .dict #[] }).objs.size) (cloFrom_has (cells := X.env.cells) (acc := []) hy))
    rw [← hcl] at e'
    refine ⟨c', e', ?_⟩
    rw [hcl] at e'
    rcases cells_mem (PySem.mem_of_lookup e') with hm | ⟨h1, _, _⟩
    · exact (cm hm).1
    · have := ok.uniq _ h1
      rw [hl] at this; cases this
  have okB : (X.blk s H scope cenv fp).Ok := by
    refine ⟨I.ok.mod, by show cenv.scope.kind = _; rw [hsc]; exact ok.kind, by show cenv.globals = _; rw [← hcenv]; exact I.ok.glob, by show cenv.builtins = _; rw [← hcenv]; exact I.ok.blt, by show s.heap.objs.size ≤ cenv.locals; rw [hL]; exact Nat.le_refl _,
      fun y z c e1 e2 => ?_, fun y hy => ?_, fun y c z e => ?_, I.ok.hd, I.ok.frames, .inl rfl, fun b hb => ⟨?_, fun y c e z => ?_⟩, I.bs, Nat.le_trans I.ok.bsz I.sz, fun b o e hb => ?_, fun b hb z => ?_, I.stack, I.stkFree⟩
    · have e1 : cenv.cells.lookup y = some c := e1
      have e2 : cenv.cells.lookup z = some c := e2
      rw [hcl] at e1 e2
      refine cells_inj (fun p hp => ?_) (fun y z c a b => I.ok.inj y z c (cm a).1 (cm b).1) (PySem.mem_of_lookup e1) (PySem.mem_of_lookup e2)
      rw [Heap.size_push]
      exact Nat.lt_succ_of_lt (cm (y := p.1) (c := p.2) hp).2
    · show ∃ c, cenv.cells.lookup y = some c
      have key : ∀ k, cenv.kindOf y = some k → (k = .cell ∨ k = .free) → ∃ c, cenv.cells.lookup y = some c := fun k hk hk' => by
        unfold Env.kindOf at hk
        rw [hsc] at hk
        obtain ⟨k', e, r⟩ := lookup_relS hk
        have : k' = .cell ∨ k' = .free := by
          rcases r with rfl | ⟨rfl, _⟩
          · exact hk'
          · exact .inr rfl
        rcases this with rfl | rfl
        · obtain ⟨c, hm⟩ := cells_has (n := (s.heap.push { cls := .type "dict", data := .dict #[] }).objs.size) (acc := cloFrom X.env.cells scope.names []) (PySem.mem_of_lookup e)
          obtain ⟨c', e'⟩ := mem_lookup hm
          exact ⟨c', by rw [hcl]; exact e'⟩
        · obtain ⟨c, h1, _⟩ := look e
          exact ⟨c, h1⟩
      rcases hy with hy | hy
      · exact key _ hy (.inl rfl)
      · exact key _ hy (.inr rfl)
    · have z : (scope.names.lookup y == some NameKind.cell) = true := z
      have z : scope.names.lookup y = some .cell := by simpa using z
      have e : cenv.cells.lookup y = some c := e
      rw [hcl] at e
      rcases cells_mem (PySem.mem_of_lookup e) with hm | ⟨_, h2, _⟩
      · rcases cloFrom_mem hm with hm | ⟨h1, _⟩
        · cases hm
        · have q := ok.uniq _ h1
          rw [z] at q; cases q
      · rw [Heap.size_push] at h2
        exact Nat.le_of_succ_le h2
    · show b ≠ cenv.locals
      rw [hL]; exact Nat.ne_of_lt (hfp b hb).2
    · have e : cenv.cells.lookup y = some c := e
      rcases mem e with ⟨h1, _⟩ | ⟨h1, _⟩
      · exact (hfp b hb).1.2.2.2.2.1 y c h1 z
      · have h2 : s.heap.objs.size + 1 ≤ b := by rw [← z]; exact h1
        exact absurd (Nat.lt_of_lt_of_le (hfp b hb).2 (Nat.le_of_succ_le h2)) (Nat.lt_irrefl _)
    · rcases (hfp b hb).1.2.2.2.1 with z | z
      · exact I.ok.noex b o e z
      · exact absurd (Nat.lt_of_lt_of_le (Heap.lt_size e) (Nat.le_trans I.ok.bsz z)) (Nat.lt_irrefl _)
    · rcases List.mem_cons.mp (I.stkSub b z) with z | z
      · exact (hfp b hb).1.2.1 z
      · exact (hfp b hb).1.2.2.1 z
  refine ⟨okB, rfl, I.bare, Un.kept kp, ⟨fun _ => none, ?_, fun i y av e1 e2 e3 => ?_⟩, fun y c e => ?_, ?_, fun y c e => ?_, fun p hp => ?_, I.hok.kept kp, by rw [wipe_length]; exact I.len⟩
  · show Heap.Ns _ cenv.locals _
    rw [hL]
    exact Heap.Ns.keeps (Heap.Ns.new ..) fun b o e => pushCells_keeps _ _ _ _ e
  · obtain ⟨e2, hne⟩ := wipe_some e2
    have hfr : scope.names.lookup y = some .free ∧ (cenv.kindOf y = some .cell ∨ cenv.kindOf y = some .free) := by
      have key : ∀ k, cenv.scope.names.lookup y = some k → k = .local ∨ k = .cell ∨ k = .free → scope.names.lookup y = some .free ∧ (cenv.kindOf y = some .cell ∨ cenv.kindOf y = some .free) := fun k hk hk' => by
        have hk0 := hk
        rw [hsc] at hk
        obtain ⟨k', e, r⟩ := lookup_relS hk
        have no : ¬ (k' = .local ∨ k' = .cell) := fun hh => by
          rcases ok.own _ (PySem.mem_of_lookup e) hh with e' | e'
          · obtain ⟨p, hp, hpy⟩ := List.mem_map.mp e'
            have e3 := ok.ix p hp
            have : p.1 = y := hpy
            rw [this] at e3
            exact hne (List.mem_map.mpr ⟨p, hp, nodup_ix hN e3 e1⟩)
          · exact e' (List.mem_of_getElem? e1)
        rcases r with rfl | ⟨rfl, rfl⟩
        · rcases hk' with rfl | rfl | rfl
          · exact absurd (.inl rfl) no
          · exact absurd (.inr rfl) no
          · exact ⟨e, .inr hk0⟩
        · exact ⟨e, .inl hk0⟩
      have e3 : Vis cenv.scope y := e3
      rcases e3 with e3 | e3 | e3
      · exact key _ e3 (.inl rfl)
      · exact key _ e3 (.inr (.inl rfl))
      · exact key _ e3 (.inr (.inr rfl))
    obtain ⟨m, hn, hl⟩ := I.loc
    have hvis : Vis X.env.scope y := (ok.free _ (PySem.mem_of_lookup hfr.1) rfl).elim (fun k => .inr (.inl k)) (fun k => .inr (.inr k))
    obtain ⟨w, r, q⟩ := hl i y av e1 e2 hvis
    refine ⟨w, r, .inr ⟨hfr.2, ?_⟩⟩
    obtain ⟨c, h1, h2⟩ := look hfr.1
    rcases q with ⟨k, _⟩ | ⟨_, c', e', z⟩
    · have k : X.env.scope.names.lookup y = some .local := k
      rcases ok.free _ (PySem.mem_of_lookup hfr.1) rfl with k' | k' <;> rw [show X.env.scope.names.lookup y = _ from k'] at k <;> cases k
    · rw [h2] at e'; cases e'
      exact ⟨c, h1, z.keeps kp⟩
  · have e : cenv.cells.lookup y = some c := e
    rcases mem e with ⟨h1, _⟩ | ⟨_, z⟩
    · obtain ⟨w, z⟩ := I.cell y c h1
      exact ⟨w, z.keeps kp⟩
    · exact ⟨_, z⟩
  · show H cenv.locals = none
    rw [hL]; exact I.hok.fresh (Nat.le_refl _)
  · have e : cenv.cells.lookup y = some c := e
    rcases mem e with ⟨h1, _⟩ | ⟨h1, _⟩
    · exact I.freeC y c h1
    · exact I.hok.fresh (Nat.le_of_succ_le h1)
  · exact absurd (show p ∈ ([] : List (Addr × Obj)) ++ [] from hp) (by simp)

/-- an item appended to a tracked list -/
theorem app_ok {E : Value → Shared → Prop} {D : Addr} {xs : List V} {y : V} {v : Value} {Q : Value → Shared → Prop} (I : Inv X pins σ H s) (hD : H D = some (.lst xs)) (hz : xs.length < sizeLine) (r : RelV y v)
    (h : ∀ s', Inv X pins σ (upd H D (.lst (xs ++ [y]))) s' → Q .none s') : wpAny (model X.prog X.w) X.A (call (.builtin "list.append") [.ref D, v]) Q E s := by
  obtain ⟨hz', its, n, ri, e⟩ := I.hok D _ hD
  have hl := ri.length
  refine append_at (hsz := by rw [List.size_toArray]; omega) e fun h' sb ho' => ?_
  refine h { s with heap := h' } (I.write (t' := s.toks) (by rw [hD]; trivial) (.inl rfl) (fun b u hb q => (sb.2 b hb).trans q) ⟨_, ho'⟩ ⟨by rw [List.length_append]; exact hz, its ++ [v], n + 1, ri.append (.cons r .nil), ?_⟩)
  rw [ho']
  simp

/-- a clause's tests -/
def PTs (X : Cx) (ifs : List Expr) (t : TT) : Prop :=
  ∀ (pins : List (Addr × Obj)) (s : Shared) (σ : St) (H : Hp) (Q : Bool → Hp → Prop), Inv X pins σ H s → t σ H Q →
    wpAny (model X.prog X.w) X.A (forIn ifs true fun c r => if r = true then do let ok ← isTrue c X.env (eval c X.env); pure (ForInStep.yield ok) else pure (ForInStep.yield r)) (TP X pins σ Q) X.xe s
def tYes : TT := fun _ H Q => Q true H
theorem pts_nil : PTs X [] tYes := fun _ _ _ H _ I h => wpAny_tests_nil ⟨H, I, h⟩
theorem pts_one {c : Expr} {t : TT} (h : PT X c t) : PTs X [c] t := fun pins s σ H Q I hw => wpAny_tests_one (h pins s σ H Q I hw)
end

theorem thnF {α : Type} {t : Sem α} {Q Q' : α → Shared → Prop} {M : Model} {A : Around} {E : Value → Shared → Prop} {s : Shared} (h : wpAny M A t Q (fun _ _ => False) s) (hQ : ∀ a s, Q a s → Q' a s) : wpAny M A t Q' E s := wpAny_mono h hQ fun _ _ z => False.elim z

/-- the loop of a list comprehension's block, the target of any form (codeAny_compLoop_tests asks a target that no tuple goes to; statement and proof follow it, PyProof/CompMap.lean:41-61, with the step letOwnedTupleGo kept) -/
theorem compLoop_any {prog : Program} {w : World} {A : Around} {R : Result → Shared → Prop} {s : Shared} {elt target iter : Expr} {ifs : List Expr} {scope : Scope} {pos : Pos} {it acc : Value} {env : Env} (I : Nat → Shared → Prop)
    (turn : ∀ n s, I n s → wpAny (model prog w) A (pyNext it) (fun r s₁ => match r with
      | none => R (.ok .next) s₁
      | some v => wpAny (model prog w) A (letOwnedTupleGo target it v) (fun _ s₁' => wpAny (model prog w) A (assign target env v) (fun _ s₂ =>
          wpAny (model prog w) A (forIn ifs true fun c r => if r = true then do let ok ← isTrue c env (eval c env); pure (ForInStep.yield ok) else pure (ForInStep.yield r)) (fun ok s₃ =>
            if ok = true then wpAny (model prog w) A (eval elt env) (fun x s₄ =>
              wpAny (model prog w) A (call (.builtin "list.append") [acc, x]) (fun _ s₅ => ∃ m, m < n ∧ I m s₅) (notedBy (model prog w) A env fun e s' => R (.error e) s') s₄) (notedBy (model prog w) A env fun e s' => R (.error e) s') s₃
            else ∃ m, m < n ∧ I m s₃) (notedBy (model prog w) A env fun e s' => R (.error e) s') s₂) (notedBy (model prog w) A env fun e s' => R (.error e) s') s₁') (notedBy (model prog w) A env fun e s' => R (.error e) s') s₁) (notedBy (model prog w) A env fun e s' => R (.error e) s') s)
    (n : Nat) (h : I n s) :
    codeAny (model prog w) A (.compLoop (.ListComp elt [⟨target, iter, ifs, 0⟩] scope pos) 0 it acc env) R s := by
  refine codeAny_loop rfl I (fun n s hI => ?_) n h
  show wpAny _ A ((compTurn (.ListComp elt [⟨target, iter, ifs, 0⟩] scope pos) 0 it acc env).onRaise (fun x => do noteFrame x env; theTreesLotGoes x)) _ _ s
  refine wpAny_noted ?_
  rw [compTurn_list]
  refine wpAny_bind (wpAny_standAt (wpAny_bind (wpAny_mono (turn n s hI) (fun r s₁ h₁ => ?_) fun _ _ h' => h')))
  cases r with
  | none => exact wpAny_pure h₁
  | some v =>
    refine wpAny_bind (wpAny_mono h₁ (fun _ s₁' h₁' => ?_) fun _ _ h' => h')
    refine wpAny_bind (wpAny_mono h₁' (fun _ s₂ h₂ => wpAny_bind (wpAny_mono h₂ (fun ok s₃ h₃ => ?_) fun _ _ h' => h')) fun _ _ h' => h')
    cases ok with
    | false => exact wpAny_pure ⟨rfl, h₃⟩
    | true =>
      exact wpAny_bind (wpAny_bind (wpAny_mono h₃ (fun x s₄ h₄ => wpAny_bind (wpAny_mono h₄ (fun _ s₅ h₅ => wpAny_pure (wpAny_pure ⟨rfl, h₅⟩)) fun _ _ h' => h')) fun _ _ h' => h'))

section
variable {X : Cx}
/-- [elt for target in iter if ..]: D the new list; W by the turn and a measure, Nx what a turn is to reach -/
def tLc (wi : TI) (g : TG) (tt : TT) (te : TE) (vs : List Nat) : TE := fun σ H Q => wi σ H fun J H1 => ∀ D, H1 D = none → ∃ W : Nat → Nat → Hp → Prop, (∃ m, W 0 m (upd H1 D (.lst []))) ∧ ∀ i m H, W i m H →
  (J.stop i H ∧ Q (.ref D) H) ∨ (J.go i H ∧ ∃ Nx : Hp → Prop, (∀ H', Nx H' → ∃ m', m' < m ∧ W (i + 1) m' H') ∧ ∀ x H', J.yld i H x H' → g x (wipe σ vs) H' fun σ2 H2 => wipe σ2 vs = wipe σ vs ∧ tt σ2 H2 fun b H3 =>
    if b = true then te σ2 H3 fun y H4 => ∃ acc, H4 D = some (.lst acc) ∧ acc.length < sizeLine ∧ Nx (upd H4 D (.lst (acc ++ [y]))) else Nx H3)
theorem lc_core {pins : List (Addr × Obj)} {s : Shared} {σ : St} {H : Hp} {Q : VK} {elt tg iter : Expr} {ifs : List Expr} {scope : Scope} {own : List (Str × Nat)} {pos pos' : Pos} {wi : TI} {g : TG} {tt : TT} {te : TE} {use : Option (Value → Sem Unit)} {Qf : Value → Shared → Prop}
    (hc : X.calm = true) (hN : X.N.Nodup) (I : Inv X pins σ H s) (hi : PI X tg iter wi) (ok : BlkOk X.N X.env.scope scope own)
    (hg : ∀ (s : Shared) (H : Hp) (C : Addr) (cl : List (Str × Addr)) (fp : List Addr), PG (X.blk s H scope (compEnvC scope cl C X.env) fp) tg g) (ht : ∀ (s : Shared) (H : Hp) (C : Addr) (cl : List (Str × Addr)) (fp : List Addr), PTs (X.blk s H scope (compEnvC scope cl C X.env) fp) ifs tt)
    (he : ∀ (s : Shared) (H : Hp) (C : Addr) (cl : List (Str × Addr)) (fp : List Addr), PE (X.blk s H scope (compEnvC scope cl C X.env) fp) elt te) (hs : ∀ x, foldedSetIterable iter X.env x = pure x)
    (h : tLc wi g tt te (own.map (·.2)) σ H Q)
    (hRR : ∀ D C s' m H', Inv X pins σ H' s' → Q (.ref D) H' → s'.heap.Ns C m → FpOk X pins H' C → compPost (model X.prog X.w) X.A X.xe use Qf (.ref D) C (.ok .next) s') :
    wpAny (model X.prog X.w) X.A (comprehension (.ListComp elt [⟨tg, iter, ifs, 0⟩] scope pos) scope X.env pos' (newList []) false (eval iter X.env) use) Qf X.xe s := by
  have hfree : ∀ y ∈ scope.names, y.2 = .free → ∃ c, X.env.cells.lookup y.1 = some c := fun y hy e => by
    rcases ok.free y hy e with k | k
    · exact I.ok.has _ (.inl k)
    · exact I.ok.has _ (.inr k)
  refine wpAny_comprehension_free (use := use) rfl hs (closure_ok hfree) ok.kind (fun y hy e => by rw [ok.uniq y hy, e])
    (thn (hi pins s σ H _ I h) fun xv s1 hx => thn hx fun itv s2 h2 => ?_)
  obtain ⟨it, fp, tn, J, H2, e, I2, T, st2, f2, q⟩ := h2
  subst e
  refine wpAny_newObj_type (newEnv_comp ?_) (by show 0 ≤ sizeLine; decide)
  generalize hD : s2.heap.objs.size = D
  have hDn : H2 D = none := I2.hok.fresh (Nat.le_of_eq hD)
  obtain ⟨W, ⟨m0, w0⟩, turn⟩ := q D hDn
  -- the new list
  generalize hs3 : ({ s2 with heap := s2.heap.push { cls := .type "list", data := .seq ([] : List Value).toArray } } : Shared) = s3
  have I3 : Inv X pins σ (upd H2 D (.lst [])) s3 := by
    rw [← hs3]
    refine I2.laid (t' := s2.toks) (fun b o e => Heap.get?_push_of_some _ e) (Nat.le_of_eq hD) ⟨Nat.zero_le _, [], 0, .nil, ?_⟩
    rw [← hD]
    exact Heap.get?_push_size _ rfl
  have h3 : s3.heap = s2.heap.push { cls := .type "list", data := .seq ([] : List Value).toArray } := by rw [← hs3]
  have sz : ∀ b ∈ fp, b < s2.heap.objs.size := fun b hb => by
    obtain ⟨o, e, _⟩ := T.obj _ _ st2 b hb
    exact Heap.lt_size e
  have f3 : ∀ b ∈ fp, FpOk X pins (upd H2 D (.lst [])) b ∧ b < s3.heap.objs.size := fun b hb => by
    have hlt := sz b hb
    refine ⟨⟨?_, (f2 b hb).2⟩, by rw [h3, Heap.size_push]; exact Nat.lt_succ_of_lt hlt⟩
    rw [upd_ne (by rw [← hD]; exact Nat.ne_of_lt hlt)]
    exact (f2 b hb).1
  have st3 : tn 0 s3.heap := T.keep _ _ _ st2 fun b _ o e => by rw [h3]; exact Heap.get?_push_of_some _ e
  have I4 := block_start I3 ok hN f3
  have pg := hg s3 (upd H2 D (.lst [])) s3.heap.objs.size (cellsFrom (s3.heap.objs.size + 1) scope.names (cloFrom X.env.cells scope.names [])) fp
  have pt := ht s3 (upd H2 D (.lst [])) s3.heap.objs.size (cellsFrom (s3.heap.objs.size + 1) scope.names (cloFrom X.env.cells scope.names [])) fp
  have pe := he s3 (upd H2 D (.lst [])) s3.heap.objs.size (cellsFrom (s3.heap.objs.size + 1) scope.names (cloFrom X.env.cells scope.names [])) fp
  show codeAny _ _ (.compStart (.ListComp elt [⟨tg, iter, ifs, 0⟩] scope pos) 0 (.ref it) (.ref D) (compEnvC scope (cellsFrom (s3.heap.objs.size + 1) scope.names (cloFrom X.env.cells scope.names [])) s3.heap.objs.size X.env)) (compPost (model X.prog X.w) X.A X.xe use Qf (.ref D) s3.heap.objs.size) { s3 with heap := pushCells (s3.heap.push { cls := .type "dict", data := .dict #[] }) scope.names }
  have nfp : ∀ b ∈ fp, (upd H2 D (.lst [])) b = none := fun b hb => (f3 b hb).1.1
  generalize hce : compEnvC scope (cellsFrom (s3.heap.objs.size + 1) scope.names (cloFrom X.env.cells scope.names [])) s3.heap.objs.size X.env = ce at I4 pg pt pe ⊢
  have cL : ce.locals = s3.heap.objs.size := by subst hce; rfl
  generalize hH3 : upd H2 D (.lst []) = H3 at I3 I4 pg pt pe w0 nfp f3
  generalize hs4 : ({ s3 with heap := pushCells (s3.heap.push { cls := .type "dict", data := .dict #[] }) scope.names } : Shared) = s4 at I4 ⊢
  have st4 : tn 0 s4.heap := T.keep _ _ _ st3 fun b _ o e => by rw [← hs4]; exact pushCells_keeps _ _ _ _ (Heap.get?_push_of_some _ e)
  have stat : ∀ {σ' : St} {H' : Hp} {s' : Shared}, Inv (X.blk s3 H3 scope ce fp) [] σ' H' s' → (∀ b ∈ fp, H' b = none) → ∀ b ∈ fp, FpOk (X.blk s3 H3 scope ce fp) [] H' b := fun {σ' H' s'} I' hn b hb =>
    ⟨hn b hb, (I'.ok.exf b hb).1, I'.ok.exfs b hb, .inl hb, fun x c e => (I'.ok.exf b hb).2 x c e, fun p hp => absurd (show p ∈ ([] : List (Addr × Obj)) ++ [] from hp) (by simp)⟩
  have loop : codeAny (model X.prog X.w) X.A (.compLoop (.ListComp elt [⟨tg, iter, ifs, 0⟩] scope pos) 0 (.ref it) (.ref D) ce) (compPost (model X.prog X.w) X.A X.xe use Qf (.ref D) s3.heap.objs.size) s4 := by
    refine compLoop_any (fun n s' => ∃ i H', Inv (X.blk s3 H3 scope ce fp) [] (wipe σ (own.map (·.2))) H' s' ∧ tn i s'.heap ∧ (∀ b ∈ fp, H' b = none) ∧ W i n H') ?_ m0 ⟨0, H3, I4, st4, nfp, w0⟩
    rintro n s5 ⟨i, H5, I5, st5, n5, w5⟩
    rcases turn i n H5 w5 with ⟨stop, qq⟩ | ⟨go, Nx, hNx, step⟩
    · have td := T.done (X.blk s3 H3 scope ce fp) rfl rfl rfl hc i [] s5 _ H5 (fun _ _ => False) I5 (stat I5 n5) st5 stop
      refine thnF td fun r s6 ⟨hr, I6⟩ => ?_
      subst hr
      -- back in the def's context
      have I7 : Inv X pins σ H5 s6 := I3.call' (ch := fp) I6.os I6.base I6.hok I6.bare fun b hb => ⟨(f3 b hb).1.2.2.2.1, (f3 b hb).1.2.1, (f3 b hb).1.2.2.2.2.1, (f3 b hb).1.2.2.2.2.2⟩
      have nC : H5 s3.heap.objs.size = none := by
        have z : H5 ce.locals = none := I6.free
        rw [cL] at z
        exact z
      obtain ⟨m, hn, _⟩ := I6.loc
      have hn : s6.heap.Ns ce.locals m := hn
      rw [cL] at hn
      exact hRR D s3.heap.objs.size s6 m H5 I7 qq hn (I3.fpOk (Nat.le_refl _) nC)
    · have ti := T.item (X.blk s3 H3 scope ce fp) rfl rfl rfl hc i [] s5 _ H5 (fun _ _ => False) I5 (stat I5 n5) st5 go
      refine thnF ti fun r s6 ⟨u, hr, h6⟩ => ?_
      subst hr
      refine thnF h6 fun _ s7 ⟨x, H7, I7, r7, y7, st7, n7⟩ => ?_
      have I7' := I7.pinned (stat I7 n7) (T.obj _ _ st7)
      refine thnF (pg _ s7 _ H7 x u _ I7' r7 (step x H7 y7)) fun _ s8 ⟨σ8, H8, I8, hw8, q8⟩ => ?_
      refine thnF (pt _ s8 σ8 H8 _ I8 q8) fun b s9 ⟨H9, I9, q9⟩ => ?_
      -- the turn's end
      have fin : ∀ {s' : Shared} {H' : Hp}, Inv (X.blk s3 H3 scope ce fp) ([] ++ pinsAt fp s7.heap) σ8 H' s' → Nx H' → ∃ m, m < n ∧ ∃ i H', Inv (X.blk s3 H3 scope ce fp) [] (wipe σ (own.map (·.2))) H' s' ∧ tn i s'.heap ∧ (∀ b ∈ fp, H' b = none) ∧ W i m H' := fun {s' H'} I' nx => by
        obtain ⟨m', hm, w'⟩ := hNx H' nx
        have pin' : ∀ b ∈ fp, ∀ o, s7.heap.get? b = some o → s'.heap.get? b = some o ∧ H' b = none := fun b hb o e =>
          let z := I'.pin (b, o) (List.mem_append_right _ (List.mem_append_right _ (mem_pinsAt hb e)))
          ⟨z.1, z.2.1⟩
        have hl : (wipe σ (own.map (·.2))).length = σ8.length := by rw [← hw8, wipe_length]
        refine ⟨m', hm, i + 1, H', (I'.unpinned (pins := [])).weak hl (fun j v e => ?_), T.keep _ _ _ st7 fun b hb o e => (pin' b hb o e).1, fun b hb => ?_, w'⟩
        · rw [← hw8] at e
          exact (wipe_some e).1
        · obtain ⟨o, e, _⟩ := T.obj _ _ st7 b hb
          exact (pin' b hb o e).2
      cases b with
      | false =>
        simp only [Bool.false_eq_true, if_false] at q9 ⊢
        exact fin I9 q9
      | true =>
        simp only [if_true] at q9 ⊢
        refine thnF (pe _ s9 σ8 H9 _ I9 q9) fun z s10 ⟨yv, H10, I10, r10, acc, hD10, hz10, nx⟩ => ?_
        exact app_ok (X := X.blk s3 H3 scope ce fp) I10 hD10 hz10 r10 fun s11 I11 => fin I11 nx
  exact codeAny_compStart_list loop (T.self X.A 0 _ _ _ st4 loop)
/-- as a value -/
theorem pe_lc {elt tg iter : Expr} {ifs : List Expr} {scope : Scope} {own : List (Str × Nat)} {pos : Pos} {wi : TI} {g : TG} {tt : TT} {te : TE} (hc : X.calm = true) (hN : X.N.Nodup) (hi : PI X tg iter wi) (ok : BlkOk X.N X.env.scope scope own)
    (hg : ∀ (s : Shared) (H : Hp) (C : Addr) (cl : List (Str × Addr)) (fp : List Addr), PG (X.blk s H scope (compEnvC scope cl C X.env) fp) tg g) (ht : ∀ (s : Shared) (H : Hp) (C : Addr) (cl : List (Str × Addr)) (fp : List Addr), PTs (X.blk s H scope (compEnvC scope cl C X.env) fp) ifs tt)
    (he : ∀ (s : Shared) (H : Hp) (C : Addr) (cl : List (Str × Addr)) (fp : List Addr), PE (X.blk s H scope (compEnvC scope cl C X.env) fp) elt te) (hs : ∀ x, foldedSetIterable iter X.env x = pure x := by intro _; rfl) :
    PE X (.ListComp elt [⟨tg, iter, ifs, 0⟩] scope pos) (tLc wi g tt te (own.map (·.2))) := by
  intro pins s σ H Q I h
  rw [eval_ListComp]
  refine lc_core hc hN I hi ok hg ht he hs h fun D C s' m H' I' q hn f => ⟨m, hn, fun h'' sb => ?_⟩
  obtain ⟨f0, f1, f2, f3, f4, f5⟩ := f
  exact ⟨.ref D, H', I'.turned (t' := s'.toks) (fun b o hb e => (sb.2 b hb).trans e) f0 f1 f3 f4 f5, rfl, q⟩
/-- name = [..] on one line, the name a local -/
theorem ps_setLc {i : Nat} {y : Str} {py : Pos} {elt tg iter : Expr} {ifs : List Expr} {scope : Scope} {own : List (Str × Nat)} {pos spos : Pos} {wi : TI} {g : TG} {tt : TT} {te : TE} (hc : X.calm = true) (hN : X.N.Nodup) (hy : X.N[i]? = some y) (hyl : X.env.scope.names.lookup y = some .local)
    (hsw : swapsWith (.ListComp elt [⟨tg, iter, ifs, 0⟩] scope pos) (some (.Name y py)) spos.line X.env = pure true) (hi : PI X tg iter wi) (ok : BlkOk X.N X.env.scope scope own)
    (hg : ∀ (s : Shared) (H : Hp) (C : Addr) (cl : List (Str × Addr)) (fp : List Addr), PG (X.blk s H scope (compEnvC scope cl C X.env) fp) tg g) (ht : ∀ (s : Shared) (H : Hp) (C : Addr) (cl : List (Str × Addr)) (fp : List Addr), PTs (X.blk s H scope (compEnvC scope cl C X.env) fp) ifs tt)
    (he : ∀ (s : Shared) (H : Hp) (C : Addr) (cl : List (Str × Addr)) (fp : List Addr), PE (X.blk s H scope (compEnvC scope cl C X.env) fp) elt te) (hs : ∀ x, foldedSetIterable iter X.env x = pure x := by intro _; rfl) :
    PS X (.Assign [.Name y py] (.ListComp elt [⟨tg, iter, ifs, 0⟩] scope pos) spos) (tAsg (tLc wi g tt te (own.map (·.2))) (gName i)) := by
  intro pins s σ H D I h
  rw [exec_Assign_Name_used _ _ _ _ hsw]
  refine wpAny_bind (wpAny_standAt (wpAny_bind ?_))
  show wpAny _ X.A (do let _ ← comprehension (.ListComp elt [⟨tg, iter, ifs, 0⟩] scope pos) scope X.env (firstIterPos [⟨tg, iter, ifs, 0⟩] pos) (newList []) false (eval iter X.env) (some (assign (.Name y py) X.env))) _ _ s
  have h : tLc wi g tt te (own.map (·.2)) σ H (fun x H1 => gName i x σ H1 D.nx) := h
  refine wpAny_bind (thn (lc_core (Qf := fun _ s' => SP X pins D .next s') hc hN I hi ok hg ht he hs h fun L C s' m H' I' q hn f => ?_) fun _ s' hq => wpAny_pure (wpAny_pure hq))
  show wpAny _ _ (assign (.Name y py) X.env (.ref L)) _ _ _
  refine wpAny_assign_Name (store_ok2 (v := V.ref L) I' hN hy (.inl hyl) rfl (fun s2 I2 ⟨a, sb, ha⟩ => ?_) (.inr hyl))
  obtain ⟨f0, f1, f2, f3, f4, f5⟩ := f
  have haC : C ≠ a := by
    rcases ha with z | z
    · rw [z]; exact f1
    · exact fun e => f4 y a z e.symm
  refine ⟨m, hn.sameBut sb haC, fun h3 sb3 => ?_⟩
  exact ⟨_, H', I2.turned (t' := s2.toks) (fun b o hb e => (sb3.2 b hb).trans e) f0 f1 f3 f4 f5, q⟩
theorem sw_true {elt : Expr} {gs : List Comprehension} {scope : Scope} {pos py : Pos} {y : Str} {l : Nat} {env : Env} (hk : env.scope.kind = .function) (hy : env.scope.names.lookup y = some .local) (hl : (py.line == pos.line) = true)
    (ha : (scope.names.any fun (n, k) => n == y && (k == .local || k == .cell)) = false) : swapsWith (.ListComp elt gs scope pos) (some (.Name y py)) l env = pure true := by
  have ky : env.kindOf y = some .local := hy
  have hb : env.blockKind = .function := by unfold Env.blockKind; rw [hk]; rfl
  unfold swapsWith
  simp only [hb, ky, ha, Expr.pos, hl]
  rfl
end

/-! ### the forms one uses -/
/-- over a range: Pv by the turn and the heap (the new list at D within) -/
theorem lc_range {lo : Int} {n : Nat} {g : TG} {tt : TT} {te : TE} {vs : List Nat} {σ : St} {H1 : Hp} {D : Addr} {Qd : Hp → Prop} (Pv : Nat → Hp → Prop) (h0 : Pv 0 (upd H1 D (.lst [])))
    (hs : ∀ i H, i < n → Pv i H → g (.int (lo + i)) (wipe σ vs) H fun σ2 H2 => wipe σ2 vs = wipe σ vs ∧ tt σ2 H2 fun b H3 =>
      if b = true then te σ2 H3 fun y H4 => ∃ acc, H4 D = some (.lst acc) ∧ acc.length < sizeLine ∧ Pv (i + 1) (upd H4 D (.lst (acc ++ [y]))) else Pv (i + 1) H3) (hd : ∀ H, Pv n H → Qd H) :
    ∃ W : Nat → Nat → Hp → Prop, (∃ m, W 0 m (upd H1 D (.lst []))) ∧ ∀ i m H, W i m H →
      ((Itr lo n).stop i H ∧ Qd H) ∨ ((Itr lo n).go i H ∧ ∃ Nx : Hp → Prop, (∀ H', Nx H' → ∃ m', m' < m ∧ W (i + 1) m' H') ∧ ∀ x H', (Itr lo n).yld i H x H' → g x (wipe σ vs) H' fun σ2 H2 => wipe σ2 vs = wipe σ vs ∧ tt σ2 H2 fun b H3 =>
        if b = true then te σ2 H3 fun y H4 => ∃ acc, H4 D = some (.lst acc) ∧ acc.length < sizeLine ∧ Nx (upd H4 D (.lst (acc ++ [y]))) else Nx H3) := by
  refine ⟨fun i m H => m = n - i ∧ i ≤ n ∧ Pv i H, ⟨n, by simp, Nat.zero_le _, h0⟩, ?_⟩
  rintro i m H ⟨rfl, hi, p⟩
  by_cases hlt : i < n
  · refine .inr ⟨hlt, Pv (i + 1), fun H' p' => ⟨n - (i + 1), by omega, rfl, hlt, p'⟩, fun x H' y => ?_⟩
    obtain ⟨e, y⟩ := y
    subst e y
    exact hs i _ hlt p
  · have e : i = n := by omega
    subst e
    exact .inl ⟨Nat.le_refl _, hd H p⟩
/-- over a list that the block leaves as it is -/
theorem lc_list {K : PySem.W.Frag} {a : Addr} {xs : List V} {g : TG} {tt : TT} {te : TE} {vs : List Nat} {σ : St} {H1 : Hp} {D : Addr} {Qd : Hp → Prop} (Pv : Nat → Hp → Prop) (h0 : Pv 0 (upd H1 D (.lst []))) (hl : ∀ i H, i ≤ xs.length → Pv i H → SqL K H a xs)
    (hs : ∀ i x H, xs[i]? = some x → Pv i H → g x (wipe σ vs) H fun σ2 H2 => wipe σ2 vs = wipe σ vs ∧ tt σ2 H2 fun b H3 =>
      if b = true then te σ2 H3 fun y H4 => ∃ acc, H4 D = some (.lst acc) ∧ acc.length < sizeLine ∧ Pv (i + 1) (upd H4 D (.lst (acc ++ [y]))) else Pv (i + 1) H3) (hd : ∀ H, Pv xs.length H → Qd H) :
    ∃ W : Nat → Nat → Hp → Prop, (∃ m, W 0 m (upd H1 D (.lst []))) ∧ ∀ i m H, W i m H →
      ((Itl K a).stop i H ∧ Qd H) ∨ ((Itl K a).go i H ∧ ∃ Nx : Hp → Prop, (∀ H', Nx H' → ∃ m', m' < m ∧ W (i + 1) m' H') ∧ ∀ x H', (Itl K a).yld i H x H' → g x (wipe σ vs) H' fun σ2 H2 => wipe σ2 vs = wipe σ vs ∧ tt σ2 H2 fun b H3 =>
        if b = true then te σ2 H3 fun y H4 => ∃ acc, H4 D = some (.lst acc) ∧ acc.length < sizeLine ∧ Nx (upd H4 D (.lst (acc ++ [y]))) else Nx H3) := by
  refine ⟨fun i m H => m = xs.length - i ∧ i ≤ xs.length ∧ Pv i H, ⟨xs.length, by simp, Nat.zero_le _, h0⟩, ?_⟩
  rintro i m H ⟨rfl, hi, p⟩
  have q := hl i H hi p
  by_cases hlt : i < xs.length
  · refine .inr ⟨⟨xs, xs[i], q, by simp [hlt]⟩, Pv (i + 1), fun H' p' => ⟨xs.length - (i + 1), by omega, rfl, hlt, p'⟩, fun x H' y => ?_⟩
    obtain ⟨e, y⟩ := y
    subst e
    exact hs i x _ (y xs q) p
  · have e : i = xs.length := by omega
    subst e
    exact .inl ⟨⟨xs, q, Nat.le_refl _⟩, hd H p⟩
/-- over a tuple -/
theorem lc_tup {K : PySem.W.Frag} {a : Addr} {xs : List V} {g : TG} {tt : TT} {te : TE} {vs : List Nat} {σ : St} {H1 : Hp} {D : Addr} {Qd : Hp → Prop} (Pv : Nat → Hp → Prop) (h0 : Pv 0 (upd H1 D (.lst []))) (hl : ∀ i H, i ≤ xs.length → Pv i H → SqT K H a xs)
    (hs : ∀ i x H, xs[i]? = some x → Pv i H → g x (wipe σ vs) H fun σ2 H2 => wipe σ2 vs = wipe σ vs ∧ tt σ2 H2 fun b H3 =>
      if b = true then te σ2 H3 fun y H4 => ∃ acc, H4 D = some (.lst acc) ∧ acc.length < sizeLine ∧ Pv (i + 1) (upd H4 D (.lst (acc ++ [y]))) else Pv (i + 1) H3) (hd : ∀ H, Pv xs.length H → Qd H) :
    ∃ W : Nat → Nat → Hp → Prop, (∃ m, W 0 m (upd H1 D (.lst []))) ∧ ∀ i m H, W i m H →
      ((Itt K a).stop i H ∧ Qd H) ∨ ((Itt K a).go i H ∧ ∃ Nx : Hp → Prop, (∀ H', Nx H' → ∃ m', m' < m ∧ W (i + 1) m' H') ∧ ∀ x H', (Itt K a).yld i H x H' → g x (wipe σ vs) H' fun σ2 H2 => wipe σ2 vs = wipe σ vs ∧ tt σ2 H2 fun b H3 =>
        if b = true then te σ2 H3 fun y H4 => ∃ acc, H4 D = some (.lst acc) ∧ acc.length < sizeLine ∧ Nx (upd H4 D (.lst (acc ++ [y]))) else Nx H3) := by
  refine ⟨fun i m H => m = xs.length - i ∧ i ≤ xs.length ∧ Pv i H, ⟨xs.length, by simp, Nat.zero_le _, h0⟩, ?_⟩
  rintro i m H ⟨rfl, hi, p⟩
  have q := hl i H hi p
  by_cases hlt : i < xs.length
  · refine .inr ⟨⟨xs, xs[i], q, by simp [hlt]⟩, Pv (i + 1), fun H' p' => ⟨xs.length - (i + 1), by omega, rfl, hlt, p'⟩, fun x H' y => ?_⟩
    obtain ⟨e, y⟩ := y
    subst e
    exact hs i x _ (y xs q) p
  · have e : i = xs.length := by omega
    subst e
    exact .inl ⟨⟨xs, q, Nat.le_refl _⟩, hd H p⟩
def blkC (N : List Str) (sc scope : Scope) (own : List (Str × Nat)) : Bool :=
  (match scope.kind with | .function => true | _ => false) && (scope.names.all fun y => decide (scope.names.lookup y.1 = some y.2)) && (own.all fun p => decide (N[p.2]? = some p.1)) &&
    (scope.names.all fun y => match y.2 with
      | .free => (match sc.names.lookup y.1 with | some .cell => true | some .free => true | _ => false)
      | .local => decide (y.1 ∈ own.map (·.1)) || decide (y.1 ∉ N)
      | .cell => decide (y.1 ∈ own.map (·.1)) || decide (y.1 ∉ N)
      | _ => true)
theorem blkOk_by {N : List Str} {sc scope : Scope} {own : List (Str × Nat)} (h : blkC N sc scope own = true) : BlkOk N sc scope own := by
  unfold blkC at h
  simp only [Bool.and_eq_true, List.all_eq_true, decide_eq_true_eq] at h
  obtain ⟨⟨⟨h1, h2⟩, h3⟩, h4⟩ := h
  refine ⟨?_, h2, h3, fun y hy e => ?_, fun y hy e => ?_⟩
  · split at h1
    · assumption
    · cases h1
  · have q := h4 y hy
    simp only [e] at q
    split at q <;> first | exact .inl (by assumption) | exact .inr (by assumption) | cases q
  · have q := h4 y hy
    rcases e with e | e <;> (simp only [e, Bool.or_eq_true, decide_eq_true_eq] at q; exact q)
end L2

namespace L2
open PySem PySem.Spec PyProof.Rows

section
variable {prog : Program} {w : World} {A : Around} {R : Result → Shared → Prop} {s : Shared} {elt t0 i0 t1 i1 : Expr} {ifs0 ifs1 : List Expr} {scope : Scope} {pos : Pos} {it acc : Value} {env : Env}
end

section
variable {X : Cx}
/-- [elt for tg in iter if .. for tg1 in iter1 if ..]: behind the first clause's store and tests the second source's own loop, from which Nx is reached. vs: the block's names; vs1: those of the second target -/
def tLc2 (wi : TI) (g : TG) (tt : TT) (wi1 : TI) (g1 : TG) (tt1 : TT) (te : TE) (vs vs1 : List Nat) : TE := fun σ H Q => wi σ H fun J H1 => ∀ D, H1 D = none → ∃ W : Nat → Nat → Hp → Prop, (∃ m, W 0 m (upd H1 D (.lst []))) ∧ ∀ i m H, W i m H →
  (J.stop i H ∧ Q (.ref D) H) ∨ (J.go i H ∧ ∃ Nx : Hp → Prop, (∀ H', Nx H' → ∃ m', m' < m ∧ W (i + 1) m' H') ∧ ∀ x H', J.yld i H x H' → g x (wipe σ vs) H' fun σ2 H2 => wipe σ2 vs = wipe σ vs ∧ tt σ2 H2 fun b H3 =>
    if b = true then wi1 σ2 H3 fun J1 H4 => ∃ W1 : Nat → Nat → Hp → Prop, (∃ m, W1 0 m H4) ∧ ∀ j k H, W1 j k H →
      (J1.stop j H ∧ Nx H) ∨ (J1.go j H ∧ ∃ Nx1 : Hp → Prop, (∀ H', Nx1 H' → ∃ k', k' < k ∧ W1 (j + 1) k' H') ∧ ∀ x H', J1.yld j H x H' → g1 x (wipe σ2 vs1) H' fun σ3 H5 => wipe σ3 vs1 = wipe σ2 vs1 ∧ tt1 σ3 H5 fun b H6 =>
        if b = true then te σ3 H6 fun y H7 => ∃ acc, H7 D = some (.lst acc) ∧ acc.length < sizeLine ∧ Nx1 (upd H7 D (.lst (acc ++ [y]))) else Nx1 H6)
    else Nx H3)
end
end L2

namespace L2
open PySem PySem.Spec PyProof.Rows

/-! ### lists of pairs as tables -/
section
variable {κ : Type} [DecidableEq κ]
def valV (kvs : List (κ × V)) (k : κ) : Option V := (kvs.find? fun kv => decide (kv.1 = k)).map (·.2)
/-- in its place, or at the end -/
def putK (kvs : List (κ × V)) (k : κ) (v : V) : List (κ × V) :=
  if (kvs.any fun kv => decide (kv.1 = k)) = true then kvs.map (fun kv => if kv.1 = k then (kv.1, v) else kv) else kvs ++ [(k, v)]
def dropK (kvs : List (κ × V)) (k : κ) : List (κ × V) := kvs.filter fun kv => decide (kv.1 ≠ k)

end


/-! ### a tracked dict, its keys ints and texts or tuples of these -/
/-- raw entries of a dict with tuple keys -/
abbrev KT (H : Hp) : List (List Key × V) → List (List Key × Addr × Value) → Prop := Paired fun p q => p.1 = q.1 ∧ H q.2.1 = some (.tup (p.1.map kV)) ∧ RelV p.2 q.2.2
section
variable {P : Program} {w : World} {H : Hp} {h : Heap} {a : Addr}
end

/-- what the dict at a holds at the key y -/
def DGet (H : Hp) (a : Addr) (y : V) (r : Option V) : Prop :=
  (∃ kvs k, Rd H a (.dK kvs) ∧ y = kV k ∧ r = valV kvs k) ∨ ∃ kvs k b, Rd H a (.dT kvs) ∧ y = .ref b ∧ H b = some (.tup (k.map kV)) ∧ r = valV kvs k
/-- the heap behind a[y] = v -/
def DPut (H : Hp) (a : Addr) (y v : V) (H' : Hp) : Prop :=
  (∃ kvs k, H a = some (.dK kvs) ∧ y = kV k ∧ kvs.length < sizeLine ∧ H' = upd H a (.dK (putK kvs k v))) ∨
  ∃ kvs k b, H a = some (.dT kvs) ∧ y = .ref b ∧ H b = some (.tup (k.map kV)) ∧ kvs.length < sizeLine ∧ H' = upd H a (.dT (putK kvs k v))
section
variable {X : Cx} {pins : List (Addr × Obj)} {σ : St} {H : Hp} {s : Shared} {a : Addr} {y v : V} {u r : Value} {o : Option V} {A : Around} {E : Value → Shared → Prop}

end

section
variable {X : Cx} {pins : List (Addr × Obj)} {σ : St} {H : Hp} {s : Shared} {a : Addr} {kvs : List (Key × V)} {k : Key} {u : Value} {A : Around} {E : Value → Shared → Prop}
end


/-! ### readings and rules -/
/-- the element of a subscription, not a slice -/
def NoSl (i : Expr) : Prop := ∀ ov iv, subscripted i false ov iv = operate [ov, iv] (getItem ov iv)
/-- d[y] -/
def tDGet (td ty : TE) : TE := fun σ H Q => td σ H fun x H1 => ty σ H1 fun y H2 => ∃ a v, x = .ref a ∧ DGet H2 a y (some v) ∧ Q v H2
/-- y in d, y not in d -/
def tDIn (ty td : TE) : TE := fun σ H Q => ty σ H fun y H1 => td σ H1 fun x H2 => ∃ a o, x = .ref a ∧ DGet H2 a y o ∧ Q (.bl o.isSome) H2
def tDNotIn (ty td : TE) : TE := fun σ H Q => ty σ H fun y H1 => td σ H1 fun x H2 => ∃ a o, x = .ref a ∧ DGet H2 a y o ∧ Q (.bl (!o.isSome)) H2
/-- d[y] = v -/
def sDPut (td ty tv : TE) : TS := fun D σ H => tv σ H fun v H1 => td σ H1 fun x H2 => ty σ H2 fun y H3 => ∃ a H4, x = .ref a ∧ DPut H3 a y v H4 ∧ D.nx σ H4
/-- d[y] op= v -/
def sDAug (td ty tv : TE) (rd : V → V → Hp → VK → Prop) : TS := fun D σ H => td σ H fun x H1 => ty σ H1 fun y H2 => ∃ a v, x = .ref a ∧ DGet H2 a y (some v) ∧
  tv σ H2 fun y2 H3 => rd v y2 H3 fun z H4 => ∃ H5, DPut H4 a y z H5 ∧ D.nx σ H5
/-- del d[y] -/
def sDDel (td ty : TE) : TS := fun D σ H => td σ H fun x H1 => ty σ H1 fun y H2 => ∃ a kvs k, x = .ref a ∧ H2 a = some (.dK kvs) ∧ y = kV k ∧ (valV kvs k).isSome = true ∧ D.nx σ (upd H2 a (.dK (dropK kvs k)))

section
variable {X : Cx} {o i e value : Expr} {pos pos' tpos : Pos} {td ty tv : TE}
end


/-! ### displays -/
/-- {}, to be a dict of the kind that is wanted -/
def tDNewK : TE := fun _ H Q => ∀ p, H p = none → Q (.ref p) (upd H p (.dK []))
def tDNewT : TE := fun _ H Q => ∀ p, H p = none → Q (.ref p) (upd H p (.dT []))
section
variable {X : Cx} {pos : Pos}
end

/-- the pairs of a display, from the left -/
def tPairs : List (TE × TE) → St → Hp → (List (V × V) → Hp → Prop) → Prop
  | [], _, H, Q => Q [] H
  | (tk, tv) :: r, σ, H, Q => tk σ H fun x H1 => tv σ H1 fun y H2 => tPairs r σ H2 fun ps H3 => Q ((x, y) :: ps) H3
abbrev VV : List (V × V) → List (Value × Value) → Prop := Paired fun p q => RelV p.1 q.1 ∧ RelV p.2 q.2
def PPs (X : Cx) (pos : Pos) (keys : List (Option Expr)) (values : List Expr) (trs : List (TE × TE)) : Prop :=
  ∀ (pins : List (Addr × Obj)) (s : Shared) (σ : St) (H : Hp) (Q : List (V × V) → Hp → Prop), Inv X pins σ H s → tPairs trs σ H Q →
    wpAny (model X.prog X.w) X.A (evalPairs (pairTrees keys values X.env pos)) (fun vs s' => ∃ ps H', Inv X pins σ H' s' ∧ VV ps vs ∧ Q ps H') X.xe s
def mergeK (kvs more : List (Key × V)) : List (Key × V) := more.foldl (fun acc kv => putK acc kv.1 kv.2) kvs
/-- {k: v, ..} with keys ints and texts; the new dict stands empty while the pairs are made -/
def tDisp (trs : List (TE × TE)) : TE := fun σ H Q => ∀ p, H p = none → tPairs trs σ (upd H p (.dK [])) fun ps H2 => H2 p = some (.dK []) ∧ ∃ kvs : List (Key × V), ps = kvs.map (fun kv => (kV kv.1, kv.2)) ∧ kvs.length ≤ 15 ∧ Q (.ref p) (upd H2 p (.dK (mergeK [] kvs)))
/-! ### methods -/
/-- a method call o.m(e) of a built-in, with one argument: what must be seen of the text -/
structure M1 (X : Cx) (o : Expr) (m : Str) (apos : Pos) (e : Expr) (cpos : Pos) : Prop where
  base : attributeBase o m X.env (eval o X.env) = eval o X.env
  few : ((backTo cpos (starEach [e] X.env)).all (fun x => !x.1) && (backToKw cpos (keywordEach [] X.env)).all (fun x => x.1.isSome)
    && decide (([e] : List Expr).length + ([] : List Keyword).length + (if ([] : List Keyword).isEmpty then 0 else 1) < 30)) = true
  line : (apos.endLine == cpos.line) = true
  trees : backTo cpos (starEach [e] X.env) = [(false, eval e X.env)]
structure M2 (X : Cx) (o : Expr) (m : Str) (apos : Pos) (e f : Expr) (cpos : Pos) : Prop where
  base : attributeBase o m X.env (eval o X.env) = eval o X.env
  few : ((backTo cpos (starEach [e, f] X.env)).all (fun x => !x.1) && (backToKw cpos (keywordEach [] X.env)).all (fun x => x.1.isSome)
    && decide (([e, f] : List Expr).length + ([] : List Keyword).length + (if ([] : List Keyword).isEmpty then 0 else 1) < 30)) = true
  line : (apos.endLine == cpos.line) = true
  trees : backTo cpos (starEach [e, f] X.env) = [(false, eval e X.env), (false, eval f X.env)]

/-- a is a dict, whatever its keys -/
def IsD (H : Hp) (a : Addr) : Prop := (∃ kvs, Rd H a (.dK kvs)) ∨ ∃ kvs, Rd H a (.dT kvs)
section
variable {X : Cx} {pins : List (Addr × Obj)} {σ : St} {H : Hp} {s : Shared} {a : Addr} {y d : V} {u r : Value} {o : Option V} {A : Around} {E : Value → Shared → Prop}
end

def tDGet1 (td ty : TE) : TE := fun σ H Q => td σ H fun x H1 => ∃ a, x = .ref a ∧ IsD H1 a ∧ ty σ H1 fun y H2 => ∃ o, DGet H2 a y o ∧ Q (o.getD .non) H2
def tDGet2 (td ty tx : TE) : TE := fun σ H Q => td σ H fun x H1 => ∃ a, x = .ref a ∧ IsD H1 a ∧ ty σ H1 fun y H2 => tx σ H2 fun z H3 => ∃ o, DGet H3 a y o ∧ Q (o.getD z) H3
/-- d.pop(k): there; d.pop(k, x): there or not -/
def tDPop1 (td ty : TE) : TE := fun σ H Q => td σ H fun x H1 => ∃ a, x = .ref a ∧ IsD H1 a ∧ ty σ H1 fun y H2 => ∃ kvs k v, H2 a = some (.dK kvs) ∧ y = kV k ∧ valV kvs k = some v ∧ Q v (upd H2 a (.dK (dropK kvs k)))
def tDPop2 (td ty tx : TE) : TE := fun σ H Q => td σ H fun x H1 => ∃ a, x = .ref a ∧ IsD H1 a ∧ ty σ H1 fun y H2 => tx σ H2 fun z H3 => ∃ kvs k, H3 a = some (.dK kvs) ∧ y = kV k ∧
  (∀ v, valV kvs k = some v → Q v (upd H3 a (.dK (dropK kvs k)))) ∧ (valV kvs k = none → Q z H3)
section
variable {X : Cx} {o e f : Expr} {apos cpos : Pos} {td ty tx : TE}
end

/-! ### dict(d): a copy -/
section
variable {X : Cx} {pins : List (Addr × Obj)} {σ : St} {H : Hp} {s : Shared} {a : Addr} {kvs : List (Key × V)} {A : Around} {E : Value → Shared → Prop}
end


section
variable {X : Cx} {pins : List (Addr × Obj)} {σ : St} {H : Hp} {s : Shared} {a : Addr} {y : V} {u : Value} {A : Around} {E : Value → Shared → Prop}
end
end L2

namespace L2
open PySem PySem.Spec PyProof.Rows

section
variable {prog : Program} {w : World} {A : Around} {E : Value → Shared → Prop}
end

section
variable {X : Cx}
end
end L2

namespace L2
open PySem PySem.Spec PyProof.Rows

section
variable {X : Cx} {pins : List (Addr × Obj)} {σ : St} {H : Hp} {s : Shared} {h' : Heap}
/-- several records of ours have turned -/
theorem Inv.turnedL {t' : Nat} {ch : List Addr} (I : Inv X pins σ H s) (k : ∀ b o, b ∉ ch → s.heap.get? b = some o → h'.get? b = some o) (hf : ∀ b ∈ ch, FpOk X pins H b) : Inv X pins σ H { s with heap := h', toks := t' } := by
  have nit : ∀ b u, H b = some u → b ∉ ch := fun b u e z => by
    have q := (hf b z).1
    rw [q] at e; cases e
  refine I.step (g' := s.gens) (d' := s.drawn) (ch := ch) (fun b hb => ⟨(hf b hb).2.2.2.1, (hf b hb).2.1, (hf b hb).2.2.2.2.1, (hf b hb).2.2.2.2.2⟩) (fun b o _ _ hc e _ => k b o hc e) (fun b o _ _ hc e _ => ⟨o.slots, k b o hc e⟩)
    (fun _ _ _ _ n => n) (fun b o hc e => ⟨o, k b o hc e⟩) (fun _ _ e => e) (fun _ _ _ e => e) (fun b ps e => ⟨#[], by rw [e]; simp⟩) (fun m hm => ?_) (fun b u e => ?_) I.bare
  · obtain ⟨o, es, ep, ho, r⟩ := hm
    exact ⟨o, es, ep, k _ o (fun z => (hf _ z).2.1 rfl) ho, r⟩
  · refine (I.hok b u e).stay (fun c v hc q => k c v ?_ q) (fun _ q => q) fun _ _ q => q
    rcases hc with z | z
    · rw [z]; exact nit b u e
    · exact nit c _ z
/-- .. and one new object is laid -/
theorem Inv.turnedNew {t' : Nat} {ch : List Addr} {T : Addr} {ob : HO} (I : Inv X pins σ H s) (k : ∀ b o, b ∉ ch → s.heap.get? b = some o → h'.get? b = some o) (hf : ∀ b ∈ ch, FpOk X pins H b) (hT : s.heap.objs.size ≤ T)
    (new : ObjOk X.prog X.w (upd H T ob) h' T ob) : Inv X pins σ (upd H T ob) { s with heap := h', toks := t' } := by
  have hn : H T = none := I.hok.fresh hT
  have nit : ∀ b u, H b = some u → b ∉ ch := fun b u e z => by
    have q := (hf b z).1
    rw [q] at e; cases e
  refine I.step (g' := s.gens) (d' := s.drawn) (ch := ch) (fun b hb => ⟨(hf b hb).2.2.2.1, (hf b hb).2.1, (hf b hb).2.2.2.2.1, (hf b hb).2.2.2.2.2⟩) (fun b o _ _ hc e _ => k b o hc e) (fun b o _ _ hc e _ => ⟨o.slots, k b o hc e⟩)
    (fun b o _ e n => ?_) (fun b o hc e => ⟨o, k b o hc e⟩) (fun b xs e => ?_) (fun b o u e => ?_) (fun b ps e => ⟨#[], ?_⟩) (fun m hm => ?_) (fun b u e => ?_) I.bare
  · rw [upd_ne (Nat.ne_of_lt (Nat.lt_of_lt_of_le (Heap.lt_size e) hT))]; exact n
  · rw [upd_ne (ne_of_none e hn)]; exact e
  · rw [upd_ne (ne_of_none e hn)]; exact e
  · rw [upd_ne (ne_of_none e hn), e]; simp
  · obtain ⟨o, es, ep, ho, r⟩ := hm
    exact ⟨o, es, ep, k _ o (fun z => (hf _ z).2.1 rfl) ho, r⟩
  · by_cases hb : b = T
    · subst hb
      rw [upd_same] at e
      cases e
      exact new
    · rw [upd_ne hb] at e
      refine (I.hok b u e).stay (fun c v hc q => k c v ?_ q) (fun c q => by rw [upd_ne (ne_of_none q hn)]; exact q) fun c xs q => by rw [upd_ne (ne_of_none q hn)]; exact q
      rcases hc with z | z
      · rw [z]; exact nit b u e
      · exact nit c _ z

/-! ### locking a thing while a statement runs -/
end
/-- the statement runs while the thing at d is locked (read, not written); d and what stands there are the reading's choice -/
def tLock (t : TS) : TS := fun D σ H => ∃ d u, H d = some u ∧ Mut (some u) ∧ ∀ od, t ⟨fun σ' H' => H' d = some (.frz od u) ∧ D.nx σ' (upd H' d u), fun v H' => H' d = some (.frz od u) ∧ D.rt v (upd H' d u), fun σ' H' => H' d = some (.frz od u) ∧ D.bk σ' (upd H' d u), fun σ' H' => H' d = some (.frz od u) ∧ D.ct σ' (upd H' d u)⟩ σ (upd H d (.frz od u))
def tLockE (t : TE) : TE := fun σ H Q => ∃ d u, H d = some u ∧ Mut (some u) ∧ ∀ od, t σ (upd H d (.frz od u)) fun v H' => H' d = some (.frz od u) ∧ Q v (upd H' d u)
section
variable {X : Cx}
/-! ### one iterator just laid -/
theorem pi_one {tg : Expr} {pins : List (Addr × Obj)} {σ : St} {H : Hp} {s : Shared} {R : It → Hp → Prop} {J : It} {tn : Nat → Heap → Prop} {tk : Nat} (I : Inv X pins σ H s) (o : Obj)
    (T : Turn X.prog X.w X.K tg J [s.heap.objs.size] s.heap.objs.size tn) (st : tn 0 (s.heap.push o)) (q : R J H) : PIE X pins σ tg R (.ref s.heap.objs.size) { s with heap := s.heap.push o, toks := tk } := by
  refine ⟨s.heap.objs.size, [s.heap.objs.size], tn, J, H, rfl, I.kept fun b ob e => Heap.get?_push_of_some _ e, T, st, fun b hb => ?_, q⟩
  have e : b = s.heap.objs.size := by simpa using hb
  subst e
  exact I.fpOk (Nat.le_refl _) (I.hok.fresh (Nat.le_refl _))
end

/-! ### range with a step -/
/-- lo, lo + c, .. (n of them) -/
def Itc (lo c : Int) (n : Nat) : It := ⟨fun i _ => i < n, fun i H x H' => H' = H ∧ x = .int (lo + (i : Nat) * c), fun i _ => n ≤ i⟩
/-- range(i, j, c): small bounds, n items -/
def RgC (i j c : Int) (n : Nat) : Prop := c ≠ 0 ∧ c.natAbs < 1073741824 ∧ Builtin.Range.small i j c = true ∧ Builtin.Range.rangeSize i j c = n
def iRng3 (ta : TA) : TI := fun σ H R => ta σ H fun vs H1 => ∃ (i j c : Int) (n : Nat), vs = [.int i, .int j, .int c] ∧ RgC i j c n ∧ R (Itc i c n) H1
section
variable {X : Cx} {tg : Expr}
end
/-! ### reversed(list) -/
/-- the list at a (n items at the start, which the loop leaves there), from its end -/
def Itv (K : PySem.W.Frag) (a : Addr) (n : Nat) : It :=
  ⟨fun i H => i < n ∧ ∃ (xs : List V) (x : V), SqL K H a xs ∧ xs[n - 1 - i]? = some x, fun i H x H' => H' = H ∧ ∀ xs, SqL K H a xs → xs[n - 1 - i]? = some x, fun i _ => n ≤ i⟩
def iRev (K : PySem.W.Frag) (ta : TA) : TI := fun σ H R => ta σ H fun vs H1 => ∃ (a : Addr) (xs : List V), vs = [.ref a] ∧ SqL K H1 a xs ∧ R (Itv K a xs.length) H1
section
variable {X : Cx} {tg : Expr}
end

/-! ### a str -/
def Its (x : Str) : It := ⟨fun i _ => i < x.cps.size, fun i H v H' => H' = H ∧ ∃ c, x.cps[i]? = some c ∧ v = .str ⟨#[c]⟩, fun i _ => x.cps.size ≤ i⟩
theorem turn_str {P : Program} {w : World} {K : PySem.W.Frag} {tg : Expr} (it : Addr) (x : Str) (t : Tok) (ty : String) (hty : ty = "str_ascii_iterator" ∨ ty = "str_iterator") :
    Turn P w K tg (Its x) [it] it (fun i h => h.IsStrIter it ty x t i) where
  mem := by simp
  obj := fun i h st b hb => by
    have e : b = it := by simpa using hb
    subst e
    obtain ⟨o, e, c, d⟩ := st
    exact ⟨o, e, fun v z => by rw [d] at z; cases z⟩
  keep := fun i h h' st k => let ⟨o, ho, r⟩ := st; ⟨o, k it (by simp) o ho, r⟩
  item := by
    intro X hP hw hK hc i pins s σ H E I hf st hg
    subst hP hw hK
    obtain ⟨f0, f1, f2, f3, f4, f5⟩ := hf it (by simp)
    have W : Walks X.prog X.w X.A it [it] [it] x.cps.size (SignAt x) (fun i h => h.IsStrIter it ty x t i) := by
      rcases hty with e | e
      · rw [e]; exact Walks.strAscii (I.ok.hd hc) it x t
      · rw [e]; exact Walks.strWide (I.ok.hd hc) it x t
    have hno : ["enumerate", "zip", "dict_itemiterator", "dict_reverseitemiterator", "odict_iterator", "itertools.zip_longest", "itertools.pairwise"].contains ty = false := by
      rcases hty with e | e
      · rw [e]; decide
      · rw [e]; decide
    refine W.item i s _ _ hg st fun v h' tk hv st' kk => ?_
    obtain ⟨c, u, hcx, rfl⟩ := hv
    have I1 : Inv X pins σ H { s with heap := h', toks := tk } := I.turned (fun b o hb e => kk b o (by simpa using hb) e) f0 f1 f3 f4 f5
    obtain ⟨oi, e, cc, dd⟩ := id st'
    exact ⟨_, rfl, go_of (s := { s with heap := h', toks := tk }) e cc dd hno ⟨.str ⟨#[c]⟩, H, I1, ⟨u, rfl⟩, ⟨rfl, c, hcx, rfl⟩, st', fun b hb => (hf b hb).1⟩⟩
  done := by
    intro X hP hw hK hc i pins s σ H E I hf st hg
    subst hP hw hK
    obtain ⟨f0, f1, f2, f3, f4, f5⟩ := hf it (by simp)
    have hx : x.cps[i]? = none := Array.getElem?_eq_none hg
    rcases hty with e | e
    · rw [e] at st
      exact wpAny_pyNext_ascii_end (I.ok.hd hc) st hx fun h' eb => ⟨rfl, I.turned (t' := s.toks) (fun b o hb e => eb b o hb e) f0 f1 f3 f4 f5⟩
    · rw [e] at st
      exact wpAny_pyNext_wide_end (I.ok.hd hc) st hx fun h' eb => ⟨rfl, I.turned (t' := s.toks) (fun b o hb e => eb b o hb e) f0 f1 f3 f4 f5⟩
  self := fun A i s Q E st h => by
    rcases hty with e | e
    · rw [e] at st; exact wpAny_pyIter_striter_ascii st h
    · rw [e] at st; exact wpAny_pyIter_striter_wide st h
def iStr (te : TE) : TI := fun σ H R => te σ H fun v H1 => ∃ x, v = .str x ∧ R (Its x) H1
theorem pi_str {X : Cx} {tg e : Expr} {te : TE} (he : PE X e te) : PI X tg e (iStr te) := by
  intro pins s σ H R I h
  refine thn (he pins s σ H _ I h) fun v s1 ⟨y, H1, I1, r1, x, ex, q⟩ => ?_
  subst ex
  obtain ⟨t, rfl⟩ := r1
  cases ha : x.cps.all (· < 128)
  · exact wpAny_pyIter_wide ha (pi_one (tk := s1.toks) I1 _ (turn_str _ x t "str_iterator" (.inr rfl)) ⟨_, Heap.get?_push_size _ rfl, rfl, rfl⟩ q)
  · exact wpAny_pyIter_ascii ha (pi_one (tk := s1.toks) I1 _ (turn_str _ x t "str_ascii_iterator" (.inl rfl)) ⟨_, Heap.get?_push_size _ rfl, rfl, rfl⟩ q)

/-! ### a dict's keys: any dict's entries -/
section
variable {prog : Program} {w : World} {A : Around} {E : Value → Shared → Prop} {s : Shared}
end

/-! ### a locked dict -/
section
variable {X : Cx} {pins : List (Addr × Obj)} {σ : St} {H : Hp} {s : Shared} {d : Addr} {o : Obj}
end

/-- the keys of the locked dict at d, in their order -/
def Itk (d : Addr) (o : Obj) (kvs : List (Key × V)) : It :=
  ⟨fun i H => H d = some (.frz o (.dK kvs)) ∧ i < kvs.length, fun i H x H' => H' = H ∧ ∃ k v, kvs[i]? = some (k, v) ∧ x = kV k, fun i H => H d = some (.frz o (.dK kvs)) ∧ kvs.length ≤ i⟩
/-- .. of tuple keys: the key's own tuple -/
def Itkt (d : Addr) (o : Obj) (kvs : List (List Key × V)) : It :=
  ⟨fun i H => H d = some (.frz o (.dT kvs)) ∧ i < kvs.length, fun i H x H' => H' = H ∧ ∃ (k : List Key) (v : V) (q : Addr), kvs[i]? = some (k, v) ∧ x = .ref q ∧ H q = some (.tup (k.map kV)), fun i H => H d = some (.frz o (.dT kvs)) ∧ kvs.length ≤ i⟩
/-- the values -/
def Itd (d : Addr) (o : Obj) (kvs : List (Key × V)) : It :=
  ⟨fun i H => H d = some (.frz o (.dK kvs)) ∧ i < kvs.length, fun i H x H' => H' = H ∧ ∃ k, kvs[i]? = some (k, x), fun i H => H d = some (.frz o (.dK kvs)) ∧ kvs.length ≤ i⟩
/-- the pairs, each a new tuple -/
def Iti (d : Addr) (o : Obj) (kvs : List (Key × V)) : It :=
  ⟨fun i H => H d = some (.frz o (.dK kvs)) ∧ i < kvs.length, fun i H x H' => ∃ T k v, kvs[i]? = some (k, v) ∧ x = .ref T ∧ H T = none ∧ H' = upd H T (.tup [kV k, v]), fun i H => H d = some (.frz o (.dK kvs)) ∧ kvs.length ≤ i⟩
section
variable {P : Program} {w : World} {K : PySem.W.Frag} {tg : Expr} {d : Addr} {o : Obj} {es : Array DictEntry} {ep : Nat}
end

/-! ### for k in d, d.keys(), d.values(), d.items() -/
/-- the dict is locked (tLock, or by the caller) -/
def iKeys (td : TE) : TI := fun σ H R => td σ H fun x H1 => ∃ d o, x = .ref d ∧ ((∃ kvs, H1 d = some (.frz o (.dK kvs)) ∧ R (Itk d o kvs) H1) ∨ ∃ kvs, H1 d = some (.frz o (.dT kvs)) ∧ R (Itkt d o kvs) H1)
def iVals (td : TE) : TI := fun σ H R => td σ H fun x H1 => ∃ d o kvs, x = .ref d ∧ H1 d = some (.frz o (.dK kvs)) ∧ R (Itd d o kvs) H1
def iItems (td : TE) : TI := fun σ H R => td σ H fun x H1 => ∃ d o kvs, x = .ref d ∧ H1 d = some (.frz o (.dK kvs)) ∧ R (Iti d o kvs) H1
def iKeysM (td : TE) : TI := fun σ H R => td σ H fun x H1 => ∃ d o kvs, x = .ref d ∧ H1 d = some (.frz o (.dK kvs)) ∧ R (Itk d o kvs) H1
section
variable {X : Cx} {tg e : Expr} {td : TE} {apos cpos : Pos}
end

/-! ### enumerate(list) -/
/-- the list at a as it stands at each turn, each item in a new pair -/
def Ite (K : PySem.W.Frag) (a : Addr) : It :=
  ⟨fun i H => ∃ (xs : List V) (x : V), SqL K H a xs ∧ xs[i]? = some x, fun i H v H' => ∃ T x, v = .ref T ∧ H T = none ∧ H' = upd H T (.tup [.int (i : Nat), x]) ∧ ∀ xs, SqL K H a xs → xs[i]? = some x, fun i H => ∃ xs : List V, SqL K H a xs ∧ xs.length ≤ i⟩
theorem turn_enum {P : Program} {w : World} {K : PySem.W.Frag} {elts : List Expr} {kk : Nat} {tpos : Pos} (a e it : Addr) :
    Turn P w K (.Tuple elts kk tpos) (Ite K a) [e, it] e (fun i h => (∃ old, IsEnum h e it ((i : Nat) : Int) old) ∧ h.IsListIter it a i ∧ e ≠ it) where
  mem := by simp
  obj := fun i h st b hb => by
    obtain ⟨⟨old, he⟩, ⟨o, ho, hc, hd⟩, _⟩ := st
    have e' : b = e ∨ b = it := by simpa using hb
    rcases e' with z | z
    · rw [z]; exact ⟨_, he, fun v q => nomatch q⟩
    · rw [z]; exact ⟨o, ho, fun v q => by rw [hd] at q; cases q⟩
  keep := fun i h h' st k => let ⟨⟨old, he⟩, hi, hne⟩ := st; ⟨⟨old, k e (by simp) _ he⟩, hi.at fun o q => k it (by simp) o q, hne⟩
  item := by
    intro X hP hw hK hc i pins s σ H E I hf st hg
    subst hP hw hK
    obtain ⟨⟨old, he⟩, hit, hne⟩ := st
    obtain ⟨xs, x, hq, hx⟩ := hg
    obtain ⟨its, rv, p, hz⟩ := I.list hq
    obtain ⟨u, hu, ru⟩ := rv.get hx
    have hel : e < s.heap.objs.size := Heap.lt_size he
    have hil : it < s.heap.objs.size := by obtain ⟨_, q, _⟩ := hit; exact Heap.lt_size q
    refine wpAny_pyNext_enum_item he hit p.isList (x := u) (by simpa using hu) hne fun h' ho hit' hT hsz hk => ?_
    refine ⟨_, rfl, wpAny_letOwnedTupleGo_enum (s := { s with heap := h', toks := s.toks + 1 }) ho fun h'' he' sb => ?_⟩
    have hT2 : h''.get? s.heap.objs.size = some { cls := .type "tuple", data := .seq #[.int i s.toks, u] } := (sb.2 _ (Nat.ne_of_gt hel)).trans hT
    have new : ObjOk X.prog X.w (upd H s.heap.objs.size (.tup [.int (i : Nat), x])) h'' s.heap.objs.size (.tup [.int (i : Nat), x]) :=
      ⟨by show 2 ≤ sizeLine; decide, [.int i s.toks, u], .cons ⟨_, rfl⟩ (.cons ru .nil), ⟨_, hT2, rfl, _, rfl⟩⟩
    have I1 : Inv X pins σ (upd H s.heap.objs.size (.tup [.int (i : Nat), x])) { s with heap := h'', toks := s.toks + 1 } :=
      I.turnedNew (ch := [e, it]) (fun b ob hb q => (sb.2 b (fun z => hb (by simp [z]))).trans (hk b ob (fun z => hb (by simp [z])) (fun z => hb (by simp [z])) q)) hf (Nat.le_refl _) new
    refine ⟨.ref s.heap.objs.size, _, I1, rfl, ⟨_, x, rfl, I.hok.fresh (Nat.le_refl _), rfl, fun ys hy => by rw [I.list_inj hy hq]; exact hx⟩, ⟨⟨u, ?_⟩, hit'.at fun o q => (sb.2 it (Ne.symm hne)).trans q, hne⟩, fun b hb => ?_⟩
    · have e1 : ((i + 1 : Nat) : Int) = (i : Int) + 1 := by omega
      rw [e1]; exact he'
    · have hb' : b < s.heap.objs.size := by
        have e' : b = e ∨ b = it := by simpa using hb
        rcases e' with z | z
        · rw [z]; exact hel
        · rw [z]; exact hil
      rw [upd_ne (Nat.ne_of_lt hb')]
      exact (hf b hb).1
  done := by
    intro X hP hw hK hc i pins s σ H E I hf st hg
    subst hP hw hK
    obtain ⟨⟨old, he⟩, hit, hne⟩ := st
    obtain ⟨xs, hq, hx⟩ := hg
    obtain ⟨its, rv, p, hz⟩ := I.list hq
    obtain ⟨f0, f1, f2, f3, f4, f5⟩ := hf it (by simp)
    have hl := rv.length
    exact wpAny_pyNext_enum_end (I.ok.hd hc) he hit p.isList (by simp; omega) fun h' eb => ⟨rfl, I.turned (t' := s.toks) (fun b o hb q => eb b o hb q) f0 f1 f3 f4 f5⟩
  self := fun A i s Q E st h => let ⟨⟨_, he⟩, _⟩ := st; wpAny_pyIter_enum he h
def iEnum (K : PySem.W.Frag) (ta : TA) : TI := fun σ H R => ta σ H fun vs H1 => ∃ a xs, vs = [.ref a] ∧ SqL K H1 a xs ∧ R (Ite K a) H1
theorem pi_enum {X : Cx} {e : Expr} {ta : TA} {p pos tpos : Pos} {elts : List Expr} {kk : Nat} (hg : Gl X "enumerate") (hm : X.mg "enumerate" = none) (ha : PA X [e] ta) (hs : starEach [e] X.env = [(false, eval e X.env)] := by rfl) :
    PI X (.Tuple elts kk tpos) (.Call (.Name "enumerate" p) [e] [] pos) (iEnum X.K ta) := by
  intro pins s σ H R I h
  refine Call_ (ld_blt I hg hm boot_enumerate (PyProof.Rows.callWith_type1 (thn (ha pos pins s σ H _ I h) fun us s1 ⟨vs, H1, I1, r1, q1⟩ => ?_) hs rfl))
  obtain ⟨a, xs, ex, hq, q⟩ := q1
  subst ex
  cases r1 with
  | cons r rr =>
    cases rr
    cases r
    obtain ⟨its, rv, p', hz⟩ := I1.list hq
    refine call_enumerate_list p'.isList fun h' he hit hsz hk => wpAny_pyIter_enum he ?_
    have I2 : Inv X pins σ H1 { s1 with heap := h' } := I1.kept (t' := s1.toks) hk
    refine ⟨s1.heap.objs.size + 1, [s1.heap.objs.size + 1, s1.heap.objs.size], _, _, H1, rfl, I2, turn_enum a (s1.heap.objs.size + 1) s1.heap.objs.size, ⟨⟨.none, he⟩, hit, Nat.succ_ne_self _⟩, fun b hb => ?_, q⟩
    have e' : b = s1.heap.objs.size + 1 ∨ b = s1.heap.objs.size := by simpa using hb
    have hle : s1.heap.objs.size ≤ b := by
      rcases e' with z | z
      · rw [z]; exact Nat.le_add_right _ _
      · rw [z]; exact Nat.le_refl _
    exact I1.fpOk hle (I1.hok.fresh hle)
/-! ### zip(list, list) -/
theorem boot_zip5 : bootBuiltins "zip" = some (.type "zip") := by decide +kernel
/-- the lists at a and b as they stand at each turn, the items in new pairs -/
def Itz (K : PySem.W.Frag) (a b : Addr) : It :=
  ⟨fun i H => ∃ (xs ys : List V) (x y : V), SqL K H a xs ∧ SqL K H b ys ∧ xs[i]? = some x ∧ ys[i]? = some y,
    fun i H v H' => ∃ T x y, v = .ref T ∧ H T = none ∧ H' = upd H T (.tup [x, y]) ∧ (∀ xs, SqL K H a xs → xs[i]? = some x) ∧ ∀ ys, SqL K H b ys → ys[i]? = some y,
    fun i H => ∃ xs ys : List V, SqL K H a xs ∧ SqL K H b ys ∧ (xs.length ≤ i ∨ ys.length ≤ i)⟩
theorem turn_zip {P : Program} {w : World} {K : PySem.W.Frag} {elts : List Expr} {kk : Nat} {tpos : Pos} {a b z TI TO i1 i2 : Addr} (D : ZipApart z TI TO i1 i2 a b) :
    Turn P w K (.Tuple elts kk tpos) (Itz K a b) [z, TI, TO, i1, i2] z (fun i h => IsZip h z TI TO .none ∧ IsPair h TI (.ref i1) (.ref i2) ∧ (∃ x y, IsPair h TO x y) ∧ h.IsListIter i1 a i ∧ h.IsListIter i2 b i) where
  mem := by simp
  obj := fun i h st c hc => by
    obtain ⟨hz, hTI, ⟨x, y, hTO⟩, ⟨o1, e1, _, d1⟩, ⟨o2, e2, _, d2⟩⟩ := st
    have e' : c = z ∨ c = TI ∨ c = TO ∨ c = i1 ∨ c = i2 := by simpa using hc
    rcases e' with q | q | q | q | q
    · rw [q]; exact ⟨_, hz, fun v q => nomatch q⟩
    · rw [q]; exact ⟨_, hTI, fun v q => nomatch q⟩
    · rw [q]; exact ⟨_, hTO, fun v q => nomatch q⟩
    · rw [q]; exact ⟨o1, e1, fun v q => by rw [d1] at q; cases q⟩
    · rw [q]; exact ⟨o2, e2, fun v q => by rw [d2] at q; cases q⟩
  keep := fun i h h' st k => by
    obtain ⟨hz, hTI, ⟨x, y, hTO⟩, h1, h2⟩ := st
    exact ⟨k z (by simp) _ hz, k TI (by simp) _ hTI, ⟨x, y, k TO (by simp) _ hTO⟩, h1.at fun o q => k i1 (by simp) o q, h2.at fun o q => k i2 (by simp) o q⟩
  item := by
    intro X hP hw hK hc i pins s σ H E I hf st hg
    subst hP hw hK
    obtain ⟨hz, hTI, ⟨x0, y0, hTO⟩, h1, h2⟩ := st
    obtain ⟨xs, ys, x, y, hqx, hqy, hx, hy⟩ := hg
    obtain ⟨its, rv, p, _⟩ := I.list hqx
    obtain ⟨its2, rv2, p2, _⟩ := I.list hqy
    obtain ⟨u, hu, ru⟩ := rv.get hx
    obtain ⟨u2, hu2, ru2⟩ := rv2.get hy
    have hzl : z < s.heap.objs.size := Heap.lt_size hz
    refine wpAny_pyNext_zip_item D hz hTI hTO h1 h2 p.isList p2.isList (x := u) (y := u2) (by simpa using hu) (by simpa using hu2) fun h' z' TO' h1' h2' hT hsz hk => ?_
    refine ⟨_, rfl, wpAny_letOwnedTupleGo_zip (s := { s with heap := h' }) z' fun h'' z'' sb => ?_⟩
    have hT2 : h''.get? s.heap.objs.size = some { cls := .type "tuple", data := .seq #[u, u2] } := (sb.2 _ (Nat.ne_of_gt hzl)).trans hT
    have new : ObjOk X.prog X.w (upd H s.heap.objs.size (.tup [x, y])) h'' s.heap.objs.size (.tup [x, y]) :=
      ⟨by show 2 ≤ sizeLine; decide, [u, u2], .cons ru (.cons ru2 .nil), ⟨_, hT2, rfl, _, rfl⟩⟩
    have I1 : Inv X pins σ (upd H s.heap.objs.size (.tup [x, y])) { s with heap := h'' } :=
      I.turnedNew (t' := s.toks) (ch := [z, TI, TO, i1, i2]) (fun c o hb q => (sb.2 c (fun q' => hb (by simp [q']))).trans (hk c o (fun q' => hb (by simp [q'])) (fun q' => hb (by simp [q'])) (fun q' => hb (by simp [q'])) (fun q' => hb (by simp [q'])) q)) hf (Nat.le_refl _) new
    refine ⟨.ref s.heap.objs.size, _, I1, rfl, ⟨_, x, y, rfl, I.hok.fresh (Nat.le_refl _), rfl, fun l hl => by rw [I.list_inj hl hqx]; exact hx, fun l hl => by rw [I.list_inj hl hqy]; exact hy⟩, ⟨z'', ?_, ⟨u, u2, ?_⟩, ?_, ?_⟩, fun c hcm => ?_⟩
    · exact (sb.2 _ D.TIz).trans (hk _ _ D.TIz D.TITO D.TIi1 D.TIi2 hTI)
    · exact (sb.2 _ D.TOz).trans TO'
    · exact h1'.at fun o q => (sb.2 _ D.i1z).trans q
    · exact h2'.at fun o q => (sb.2 _ D.i2z).trans q
    · have hlt : c < s.heap.objs.size := by
        have e' : c = z ∨ c = TI ∨ c = TO ∨ c = i1 ∨ c = i2 := by simpa using hcm
        rcases e' with q | q | q | q | q
        · rw [q]; exact hzl
        · rw [q]; exact Heap.lt_size hTI
        · rw [q]; exact Heap.lt_size hTO
        · rw [q]; obtain ⟨_, e1, _⟩ := h1; exact Heap.lt_size e1
        · rw [q]; obtain ⟨_, e2, _⟩ := h2; exact Heap.lt_size e2
      rw [upd_ne (Nat.ne_of_lt hlt)]
      exact (hf c hcm).1
  done := by
    intro X hP hw hK hc i pins s σ H E I hf st hg
    subst hP hw hK
    obtain ⟨hz, hTI, ⟨x0, y0, hTO⟩, h1, h2⟩ := st
    obtain ⟨xs, ys, hqx, hqy, hend⟩ := hg
    obtain ⟨its, rv, p, _⟩ := I.list hqx
    obtain ⟨its2, rv2, p2, _⟩ := I.list hqy
    have l1 := rv.length
    have l2 := rv2.length
    have he : its.toArray[i]? = none ∨ its2.toArray[i]? = none := by
      rcases hend with q | q
      · exact .inl (by simp; omega)
      · exact .inr (by simp; omega)
    exact wpAny_pyNext_zip_end (I.ok.hd hc) D hz hTI hTO h1 h2 p.isList p2.isList he fun h' hk => ⟨rfl, I.turnedL (t' := s.toks) (ch := [z, TI, TO, i1, i2]) (fun c o hb q =>
      hk c o (fun q' => hb (by simp [q'])) (fun q' => hb (by simp [q'])) (fun q' => hb (by simp [q'])) (fun q' => hb (by simp [q'])) q) hf⟩
  self := fun A i s Q E st h => wpAny_pyIter_zip st.1 h
def iZip (K : PySem.W.Frag) (ta : TA) : TI := fun σ H R => ta σ H fun vs H1 => ∃ a b xs ys, vs = [.ref a, .ref b] ∧ SqL K H1 a xs ∧ SqL K H1 b ys ∧ R (Itz K a b) H1
theorem pi_zip {X : Cx} {e e2 : Expr} {ta : TA} {p pos tpos : Pos} {elts : List Expr} {kk : Nat} (hg : Gl X "zip") (hm : X.mg "zip" = none) (ha : PA X [e, e2] ta)
    (hs : starEach [e, e2] X.env = (false, eval e X.env) :: starEach [e2] X.env := by rfl) (hpl : (backTo pos (starEach [e2] X.env)).any (·.1) = false := by rfl) :
    PI X (.Tuple elts kk tpos) (.Call (.Name "zip" p) [e, e2] [] pos) (iZip X.K ta) := by
  intro pins s σ H R I h
  refine Call_ (ld_blt I hg hm boot_zip5 (PyProof.Rows.callWith_type1 (thn (ha pos pins s σ H _ I h) fun us s1 ⟨vs, H1, I1, r1, q1⟩ => ?_) hs hpl))
  obtain ⟨a, b, xs, ys, ex, hqx, hqy, q⟩ := q1
  subst ex
  cases r1 with
  | cons r rr =>
    cases rr with
    | cons r' rr =>
      cases rr
      cases r
      cases r'
      obtain ⟨its, rv, p1, _⟩ := I1.list hqx
      obtain ⟨its2, rv2, p2, _⟩ := I1.list hqy
      have la : a < s1.heap.objs.size := p1.lt
      have lb : b < s1.heap.objs.size := p2.lt
      refine call_zip_2 p1.isList p2.isList fun h' hz hTI hTO h1 h2 hsz hk => wpAny_pyIter_zip hz ?_
      have I2 : Inv X pins σ H1 { s1 with heap := h' } := I1.kept (t' := s1.toks) hk
      refine ⟨s1.heap.objs.size + 4, [s1.heap.objs.size + 4, s1.heap.objs.size + 2, s1.heap.objs.size + 3, s1.heap.objs.size, s1.heap.objs.size + 1], _, _, H1, rfl, I2, turn_zip (PySem.W.ktu_apart s1.heap.objs.size a b la lb), ⟨hz, hTI, ⟨_, _, hTO⟩, h1, h2⟩, fun c hcm => ?_, q⟩
      have e' : c = s1.heap.objs.size + 4 ∨ c = s1.heap.objs.size + 2 ∨ c = s1.heap.objs.size + 3 ∨ c = s1.heap.objs.size ∨ c = s1.heap.objs.size + 1 := by simpa using hcm
      have hle : s1.heap.objs.size ≤ c := by
        rcases e' with z | z | z | z | z
        · rw [z]; exact Nat.le_add_right _ _
        · rw [z]; exact Nat.le_add_right _ _
        · rw [z]; exact Nat.le_add_right _ _
        · rw [z]; exact Nat.le_refl _
        · rw [z]; exact Nat.le_add_right _ _
      exact I1.fpOk hle (I1.hok.fresh hle)
end L2

section 
namespace Bits
open PySem PyProof.Rows

end Bits
end 

section 
namespace TL
open PySem PySem.Builtin PySem.Builtin.Str PySem.StrLaws

abbrev tl (x : Str) : List Nat := x.cps.toList
/-! ### the list functions -/
/-- S stands at the head of l -/
def pre (S l : List Nat) : Bool := l.take S.length == S
/-- l cut at each S from the left; k signs are still to be passed over -/
def spl (S : List Nat) : Nat → List Nat → List Nat → List (List Nat)
  | _, acc, [] => [acc]
  | 0, acc, c :: r => if pre S (c :: r) = true then acc :: spl S (S.length - 1) [] r else spl S 0 (acc ++ [c]) r
  | k + 1, acc, _ :: r => spl S k acc r
/-- what stands before the first S, and behind it -/
def par (S : List Nat) : List Nat → List Nat → Option (List Nat × List Nat)
  | _, [] => none
  | acc, c :: r => if pre S (c :: r) = true then some (acc, (c :: r).drop S.length) else par S (acc ++ [c]) r

/-! ### the model's split and partition are these -/
/-! ### computing spl and par -/
/-- joined lists -/
def joinL (S : List Nat) : List (List Nat) → List Nat
  | [] => []
  | [p] => p
  | p :: q :: r => p ++ (S ++ joinL S (q :: r))
/-! ### digits -/
/-- the signs of a number -/
def numL (n : Nat) : List Nat := (Nat.toDigits 10 n).map Char.toNat
/-! ### words: x.split() -/
def wstep (st : List (List Nat) × List Nat) (c : Nat) : List (List Nat) × List Nat :=
  if Unicode.isSpace c = true then (if st.2 = [] then st else (st.1 ++ [st.2], [])) else (st.1, st.2 ++ [c])
def wfin (st : List (List Nat) × List Nat) : List (List Nat) := if st.2 = [] then st.1 else st.1 ++ [st.2]
end TL
end 

namespace L2
open PySem PySem.Spec PyProof.Rows

/-- a new list of texts, tracked -/
def rNewStrs (ys : List Str) : Hp → VK → Prop := fun H Q => ∀ p, H p = none → Q (.ref p) (upd H p (.lst (ys.map V.str)))

section
variable {X : Cx} {pins : List (Addr × Obj)} {σ : St} {H : Hp} {s : Shared} {Q : VK}
end

section
variable {X : Cx}

/-! ### of a text alone -/
/-! ### of a text and a text -/
end

section
variable {X : Cx} {o e : Expr} {to te : TE}
def tM0 (r : V → List V → Hp → VK → Prop) (to : TE) : TE := fun σ H Q => to σ H fun x H1 => (∃ a, x = .str a) ∧ r x [] H1 Q
def tM1 (r : V → List V → Hp → VK → Prop) (to te : TE) : TE := fun σ H Q => to σ H fun x H1 => (∃ a, x = .str a) ∧ te σ H1 fun y H2 => r x [y] H2 Q
end
end L2

namespace L2
open PySem PySem.Spec PyProof.Rows

section
variable {X : Cx}
end

/-! ### slices of a text -/
/-- a part, clipped, as the text's slice reckons it -/
def clipS (n d : Nat) : Option Int → Int
  | none => (d : Int)
  | some i => max 0 (min (if i < 0 then i + (n : Int) else i) (n : Int))
/-- z[lo:hi] -/
def cutS (z : Str) (lo hi : Option Int) : Str :=
  ⟨((z.cps.toList.drop (HT.sIx z.length 0 lo)).take (HT.sIx z.length z.length hi - HT.sIx z.length 0 lo)).toArray⟩
def rSlS : V → Option Int → Option Int → Hp → VK → Prop := fun x lo hi H Q => ∃ z, x = .str z ∧ z.length ≤ sizeLine ∧ Q (.str (cutS z lo hi)) H
end L2

namespace Att
open PySem PySem.W PySem.Calls PyProof.Rows

/-! ### the script -/
/-! ### the attachment: holds_open's last premise (the goal 'hc' behind k_head) from a wpAny of the law's body -/
/-! ### rules over ANY heap (no ledger) from facts about the written part K: the library's own take a ledger (News) for what they write -/
section
variable {prog : Program} {w : World} {A : Around} {E : Value → Shared → Prop} {s : Shared} {K : Frag}

/-! the whole heap as the ledger: makes every rule that writes through a ledger a rule over any heap -/
def noObjs (h : Heap) : Heap := { h with objs := #[] }
def ledger (h : Heap) (L d : Addr) : List (Addr × Obj) := (List.range h.objs.size).filterMap fun a => if a = L ∨ a = d then none else (h.get? a).map fun o => (a, o)
end
end Att

namespace L2
open PySem PySem.Spec PyProof.Rows

/-- nothing is tracked but the script, known to the object (or it is an object of the module) -/
def Only (H : Hp) : Prop := ∀ b, H b = none ∨ ∃ o xs, H b = some (.frz o (.lst xs))

end L2

namespace L2
open PySem PySem.Spec PyProof.Rows

abbrev KOf {K : PySem.W.Frag} {h : Heap} (_ : K.In h) : PySem.W.Frag := K

end L2

/- THE LAST THEOREM (shape; LID, My.* are yours):
   My.Adr: a structure of the addresses that your layer names (classes, functions); My.Txt K t: a structure (Prop) of the equations over K;
   My.txt_mk : {K} {implicit addresses ..} (e1 : nsIn K mainGlobals "law" = some (some (.ref f))) (e2 : K.lookup f = some ⟨oc, od, .func (fnOf "law" "law" params body scope dV kV doc pm an cdv ct), sl⟩) (e3 : codeIn K cdv "law" = true) .. : ∃ t, My.Txt K t

(the tactic k_is has no namespace: write k_is) -/

/-! SHORT WORDS over the layer: a def of the text, its body, what a loop and a test want. -/
namespace L2
open PySem PySem.Spec PyProof.Rows

/-! ### the text by places -/
/-- the j-th statement of a class's body -/
def inClass (s : Stmt) (j : Nat) : Stmt := match s with
  | .ClassDef _ _ _ body _ _ _ _ _ _ _ => body.getD j (.Pass ⟨0, 0, 0, 0⟩)
  | _ => .Pass ⟨0, 0, 0, 0⟩
def defArgs (s : Stmt) : Arguments := match s with
  | .FunctionDef _ a _ _ _ _ _ _ _ _ => a
  | _ => { posonlyargs := [], args := [], vararg := none, kwonlyargs := [], kw_defaults := [], kwarg := none, defaults := [] }
def defBody (s : Stmt) : List Stmt := match s with
  | .FunctionDef _ _ b _ _ _ _ _ _ _ => b
  | _ => []
def defScope (s : Stmt) : Scope := match s with
  | .FunctionDef _ _ _ _ _ _ sc _ _ _ => sc
  | _ => { kind := .function, names := [], isGenerator := false, isCoroutine := false }

/-! ### no exception leaves a def -/
abbrev CX0 : CXT := fun _ _ _ _ _ _ => False
abbrev E0 : XK := fun _ _ _ => False
theorem pass0 {X : Cx} : Passes CX0 X E0 := fun _ _ _ _ _ _ _ h => h.elim

/-! ### a def (or method) of the text as it stands behind the top -/
structure Fun (K : PySem.W.Frag) (x qual : Str) (st : Stmt) (f : Addr) (fd : FuncData) : Prop where
  ex : ∃ (oc : Value) (od : Option Addr) (kV doc pm : Value) (an : Option Addr) (cdv ct : Value) (osl : Array (Option Value)),
    fd = PySem.W.fnOf x qual (defArgs st) (defBody st) (defScope st) .none kV doc pm an cdv ct ∧ K.lookup f = some ⟨oc, od, .func fd, osl⟩ ∧ PySem.W.codeIn K cdv qual = true
  kp : PySem.W.keepIn K (.ref f) = true
section
variable {P : Program} {w : World} {K : PySem.W.Frag} {mg : Str → Option Value} {base : Heap}
/-- THE RULE for a def: its body as a term of rules, and the reading of that term -/
theorem Fun.ok {x qual : Str} {st : Stmt} {f : Addr} {fd : FuncData} {N ps : List Str} {k : Nat} {sp : Sp} (F : Fun K x qual st f fd) (S : FnScope N ps (defScope st)) (len : ∀ vs H Q E, sp vs H Q E → vs.length = ps.length)
    (hbody : ∀ (cdv : Value) (A : Around) (outer : List Env) (s : Shared) (H : Hp) (vs : List V) (Q : VK) (E : XK), Room k (A.deeper (envOfC qual (defScope st) s.heap.objs.size f cdv)) → sp vs H Q E →
      ∃ t, PSs (cxOf CX0 P w K mg base N qual (defScope st) f cdv A outer s H E).nox (defBody st) t ∧ t { nx := fun _ H' => Q .non H', rt := Q } (start N vs) H) : FnOk P w K mg base CX0 (k + 1) f fd ps sp := by
  obtain ⟨oc, od, kV, doc, pm, an, cdv, ct, osl, rfl, lk, hcd⟩ := F.ex
  refine fn_of lk hcd S len fun A outer s H vs Q E hr hsp => ?_
  obtain ⟨t, h, q⟩ := hbody cdv A outer s H vs Q E hr hsp
  exact ⟨t, h.nox, q⟩
/-- how its arguments bind (no defaults): h is «fun _ _ _ _ _ _ us hl => match us, hl with | [_, _], _ => rfl», one _ a parameter -/
theorem Fun.binds {x qual : Str} {st : Stmt} {f : Addr} {fd : FuncData} {ps : List Str} (F : Fun K x qual st f fd)
    (h : ∀ (kV doc pm : Value) (an : Option Addr) (cdv ct : Value) (us : List Value), us.length = ps.length → bindArgs (PySem.W.fnOf x qual (defArgs st) (defBody st) (defScope st) .none kV doc pm an cdv ct) ⟨us, []⟩ = pure (ps.zip us)) : Binds K fd ps [] := by
  obtain ⟨oc, od, kV, doc, pm, an, cdv, ct, osl, rfl, lk, hcd⟩ := F.ex
  exact .all (h kV doc pm an cdv ct)
theorem fun_mk {x qual : Str} {st : Stmt} {f : Addr} {oc : Value} {od an : Option Addr} {osl : Array (Option Value)} {kV doc pm cdv ct : Value} (l : K.lookup f = some ⟨oc, od, .func (PySem.W.fnOf x qual (defArgs st) (defBody st) (defScope st) .none kV doc pm an cdv ct), osl⟩)
    (c : PySem.W.codeIn K cdv qual = true) (k : PySem.W.keepIn K (.ref f) = true) : Fun K x qual st f (PySem.W.fnOf x qual (defArgs st) (defBody st) (defScope st) .none kV doc pm an cdv ct) := ⟨⟨oc, od, kV, doc, pm, an, cdv, ct, osl, rfl, l, c⟩, k⟩
end
/-! ### expressions in short: the name that stands in the i-th slot -/
section
variable {X : Cx}
theorem pv (i : Nat) {x : Str} {pos : Pos} (hN : X.N[i]? = some x := by rfl) (hv : Vis X.env.scope x := by first | exact Or.inl rfl | exact Or.inr (Or.inl rfl) | exact Or.inr (Or.inr rfl)) (hd : (x == ("__debug__" : Str)) = false := by decide)
    (hcd : (x == ("__classdict__" : Str)) = false := by decide) : PE X (.Name x pos) (tVar i) := pe_var hN hv hd hcd
end

/-! ### tests -/
theorem iteF {A B : Prop} (h : B) : if false = true then A else B := by
  rw [if_neg Bool.false_ne_true]
  exact h
theorem iteT {A B : Prop} (h : A) : if true = true then A else B := by
  rw [if_pos rfl]
  exact h
/-! ### heaps -/
/-- all that was tracked is as it was -/
def Same (H H' : Hp) : Prop := ∀ b o, H b = some o → H' b = some o
theorem Same.refl (H : Hp) : Same H H := fun _ _ h => h
theorem Same.trans {H H1 H2 : Hp} (a : Same H H1) (b : Same H1 H2) : Same H H2 := fun c o h => b c o (a c o h)
theorem Same.free {H H' : Hp} (e : Same H H') {l : Addr} (h : H' l = Option.none) : H l = Option.none := by
  cases q : H l with
  | none => rfl
  | some o =>
    rw [e l o q] at h
    cases h
theorem Same.seq {K : PySem.W.Frag} {H H' : Hp} {a : Addr} {xs : List V} (e : Same H H') (h : SqL K H a xs) : SqL K H' a xs := by
  rcases h with (h | ⟨o, h⟩) | h
  · exact .inl (.inl (e _ _ h))
  · exact .inl (.inr ⟨o, e _ _ h⟩)
  · exact .inr h

/-! ### a dict's pairs: keys that differ -/
section
variable {κ : Type} [DecidableEq κ]
end
/-! ### lists -/
theorem at_of {xs : List V} {z : Int} {j : Nat} {v : V} (e : z = (j : Int)) (h : xs[j]? = some v) : atI xs z = some v := by
  rw [e]
  exact atI_nat h
end L2

section
set_option Elab.async false
set_option linter.all false
set_option maxRecDepth 100000
set_option maxHeartbeats 2000000
namespace L2
open PySem PySem.Spec PyProof.Rows
open PySem.W (WData Codec OpenSpec Well WellAll ReadsW ReadsAllW)
/-! ### an answer as data -/
mutual
/-- x stands for the datum d, lists and tuples all the way -/
inductive Dw (K : PySem.W.Frag) (H : Hp) : V → WData → Prop
  | non : Dw K H .non .none
  | bl (b : Bool) : Dw K H (.bl b) (.bool b)
  | int (i : Int) : Dw K H (.int i) (.int i)
  | str (x : Str) : Dw K H (.str x) (.str x)
  | byt (b : Array UInt8) : Dw K H (.byt b) (.bytes b.toList)
  | lst {a : Addr} {xs : List V} {ds : List WData} : SqL K H a xs → DwAll K H xs ds → Dw K H (.ref a) (.list ds)
  | tup {a : Addr} {xs : List V} {ds : List WData} : SqT K H a xs → DwAll K H xs ds → Dw K H (.ref a) (.tuple ds)
inductive DwAll (K : PySem.W.Frag) (H : Hp) : List V → List WData → Prop
  | nil : DwAll K H [] []
  | cons {v : V} {vs : List V} {d : WData} {ds : List WData} : Dw K H v d → DwAll K H vs ds → DwAll K H (v :: vs) (d :: ds)
end
theorem dw_ints {K : PySem.W.Frag} {H : Hp} : ∀ ns : List Int, DwAll K H (ns.map V.int) (ns.map WData.int)
  | [] => .nil
  | n :: r => .cons (.int n) (dw_ints r)
theorem ints_dw {K : PySem.W.Frag} {H : Hp} : ∀ (ns : List Int) (xs : List V), DwAll K H xs (ns.map WData.int) → xs = ns.map V.int
  | [], xs, h => by
    cases h
    rfl
  | n :: r, xs, h => by
    cases h with
    | cons h1 h2 =>
      cases h1
      rw [ints_dw r _ h2] <;> rfl
section
variable {P : Program} {w : World} {K : PySem.W.Frag} {H : Hp} {h : Heap} {R : PySem.W.WRecords} {cl : Str → Option Addr}
theorem sqL_at {a : Addr} {xs : List V} (hok : HOk P w H h) (KX : K.In h) (q : SqL K H a xs) : ∃ (its : List Value) (o : Obj) (n : Nat), Vals xs its ∧ h.get? a = some o ∧ o.cls = .type "list" ∧ o.data = .seq its.toArray n := by
  rcases q with q | ⟨o, its, n, e, hc, _, hd, _, hv⟩
  · obtain ⟨_, its, n, hv, e⟩ := (show ObjOk P w H h a (.lst xs) from q.ok hok)
    exact ⟨its, _, n, hv, e, rfl, rfl⟩
  · exact ⟨its.toList, o, n, hv, KX _ _ e, hc, by simp [hd]⟩
theorem sqT_at {a : Addr} {xs : List V} (hok : HOk P w H h) (KX : K.In h) (q : SqT K H a xs) : ∃ (its : List Value) (o : Obj) (n : Nat), Vals xs its ∧ h.get? a = some o ∧ o.cls = .type "tuple" ∧ o.data = .seq its.toArray n := by
  rcases q with q | ⟨o, its, n, e, hc, hd, _, hv⟩
  · obtain ⟨_, its, hv, o, e, hc, n, hd⟩ := (show ObjOk P w H h a (.tup xs) from q.ok hok)
    exact ⟨its, o, n, hv, e, hc, hd⟩
  · exact ⟨its.toList, o, n, hv, KX _ _ e, hc, by simp [hd]⟩
mutual
theorem Dw.reads (hok : HOk P w H h) (KX : K.In h) : ∀ (d : WData) (v : V) (u : Value), Dw K H v d → RelV v u → ∃ as, ReadsW R cl h u d as
  | .none, _, _, x, r => by
    cases x
    cases r
    exact ⟨_, ReadsW.none⟩
  | .bool b, _, _, x, r => by
    cases x
    cases r
    exact ⟨_, ReadsW.bool b⟩
  | .int i, _, _, x, r => by
    cases x
    obtain ⟨t, rfl⟩ := r
    exact ⟨_, ReadsW.int i t⟩
  | .str s, _, _, x, r => by
    cases x
    obtain ⟨t, rfl⟩ := r
    exact ⟨_, ReadsW.str s t⟩
  | .bytes b, _, _, x, r => by
    cases x
    obtain ⟨t, rfl⟩ := r
    exact ⟨_, ReadsW.bytes _ t⟩
  | .list ds, _, _, x, r => by
    cases x with
    | lst hs ha =>
      cases r
      obtain ⟨its, o, n, rv, ho, hc, hd⟩ := sqL_at hok KX hs
      obtain ⟨as, hr⟩ := Dw.readsAll hok KX ds _ its ha rv
      exact ⟨_, ReadsW.list ho hc hd hr⟩
  | .tuple ds, _, _, x, r => by
    cases x with
    | tup hs ha =>
      cases r
      obtain ⟨its, o, n, rv, ho, hc, hd⟩ := sqT_at hok KX hs
      obtain ⟨as, hr⟩ := Dw.readsAll hok KX ds _ its ha rv
      exact ⟨_, ReadsW.tuple ho hc hd hr⟩
  | .float _, _, _, x, _ => by cases x
  | .dict _, _, _, x, _ => by cases x
  | .bytearray _, _, _, x, _ => by cases x
  | .set _, _, _, x, _ => by cases x
  | .frozenset _, _, _, x, _ => by cases x
  | .obj _ _, _, _, x, _ => by cases x
theorem Dw.readsAll (hok : HOk P w H h) (KX : K.In h) : ∀ (ds : List WData) (vs : List V) (us : List Value), DwAll K H vs ds → Vals vs us → ∃ as, ReadsAllW R cl h us ds as
  | [], _, _, x, r => by
    cases x
    cases r
    exact ⟨_, ReadsAllW.nil⟩
  | d :: ds, _, _, x, r => by
    cases x with
    | cons h1 h2 =>
      cases r with
      | cons r1 r2 =>
        obtain ⟨as, q1⟩ := Dw.reads hok KX d _ _ h1 r1
        obtain ⟨bs, q2⟩ := Dw.readsAll hok KX ds _ _ h2 r2
        exact ⟨_, ReadsAllW.cons q1 q2⟩
end
end
/-! ### the arguments -/
mutual
/-- data that a codec tells -/
def plW : WData → Bool
  | .none => true
  | .bool _ => true
  | .int _ => true
  | .str _ => true
  | .bytes _ => true
  | .list xs => plWs xs
  | .tuple xs => plWs xs
  | _ => false
def plWs : List WData → Bool
  | [] => true
  | x :: r => plW x && plWs r
end
theorem plWs_map {α : Type} {f : α → WData} (h : ∀ a, plW (f a) = true) : ∀ l : List α, plWs (l.map f) = true
  | [] => rfl
  | x :: r => by
    show (plW (f x) && plWs (r.map f)) = true
    rw [h x, plWs_map h r] <;> rfl
theorem pl_enc : ∀ (c : Codec) (a : c.denote), plW (c.enc a) = true
  | .unit, _ => rfl
  | .bool, _ => rfl
  | .int _ _, _ => rfl
  | .nat _ _, _ => rfl
  | .u8, _ => rfl
  | .bytes _ _, _ => rfl
  | .text _ _ _ _, _ => rfl
  | .list _ _ c, a => plWs_map (fun x => pl_enc c x) a
  | .pair c d, a => by
    show (plW (c.enc a.1) && (plW (d.enc a.2) && true)) = true
    rw [pl_enc c a.1, pl_enc d a.2] <;> rfl
  | .triple c d e, a => by
    show (plW (c.enc a.1) && (plW (d.enc a.2.1) && (plW (e.enc a.2.2) && true))) = true
    rw [pl_enc c a.1, pl_enc d a.2.1, pl_enc e a.2.2] <;> rfl
  | .option c, none => rfl
  | .option c, some x => pl_enc c x
theorem pl_encAll : ∀ (cs : List Codec) (a : Codec.denoteAll cs), plWs (Codec.encAll cs a) = true
  | [], _ => rfl
  | c :: cs, a => by
    show (plW (c.enc a.1) && plWs (Codec.encAll cs a.2)) = true
    rw [pl_enc c a.1, pl_encAll cs a.2] <;> rfl
theorem weight_mem : ∀ {xs : List WData} {d : WData}, d ∈ xs → d.weight ≤ WData.weightAll xs
  | [], d, h => absurd h (by simp)
  | x :: r, d, h => by
    show d.weight ≤ x.weight + 1 + WData.weightAll r
    rcases List.mem_cons.mp h with e | m
    · rw [e]
      omega
    · have z := weight_mem m
      omega
def toV : Value → V
  | .none => .non
  | .bool b => .bl b
  | .int i _ => .int i
  | .str x _ => .str x
  | .bytes b _ => .byt b
  | .ref a => .ref a
  | _ => .non
/-- a value of the arguments, its objects among A -/
def OkU (A : List Addr) : Value → Prop
  | .none => True
  | .bool _ => True
  | .int _ _ => True
  | .str _ _ => True
  | .bytes _ _ => True
  | .ref a => a ∈ A
  | _ => False
theorem OkU.mono {A B : List Addr} (h : ∀ a ∈ A, a ∈ B) : ∀ {u : Value}, OkU A u → OkU B u := fun {u} x => by
  cases u with
  | ref a => exact h a x
  | none => trivial
  | bool b => trivial
  | int i t => trivial
  | str s t => trivial
  | bytes b t => trivial
  | _ => exact False.elim x
theorem relV_toV {A : List Addr} {u : Value} (x : OkU A u) : RelV (toV u) u := by
  cases u with
  | ref a => rfl
  | none => rfl
  | bool b => rfl
  | int i t => exact ⟨t, rfl⟩
  | str s t => exact ⟨t, rfl⟩
  | bytes b t => exact ⟨t, rfl⟩
  | _ => exact False.elim x
theorem vals_toV {A : List Addr} : ∀ {vs : List Value}, (∀ u ∈ vs, OkU A u) → Vals (vs.map toV) vs
  | [], _ => .nil
  | u :: r, h => .cons (relV_toV (h u (List.mem_cons_self ..))) (vals_toV fun x hx => h x (List.mem_cons_of_mem _ hx))
/-- an object of the arguments -/
def ArgOb (h : Heap) (A : List Addr) (a : Addr) : Prop := ∃ vs : List Value, vs.length ≤ sizeLine ∧ (∀ u ∈ vs, OkU A u) ∧
  (h.get? a = some { cls := .type "list", data := .seq vs.toArray } ∨ h.get? a = some { cls := .type "tuple", data := .seq vs.toArray })
theorem ArgOb.mono {h : Heap} {A B : List Addr} {a : Addr} (k : ∀ a ∈ A, a ∈ B) (x : ArgOb h A a) : ArgOb h B a := by
  obtain ⟨vs, h1, h2, h3⟩ := x
  exact ⟨vs, h1, fun u hu => (h2 u hu).mono k, h3⟩
theorem wellAll_len {P : Params} {h : Heap} : ∀ {vs : List Value} {ds : List WData}, WellAll P h vs ds → vs.length = ds.length
  | _, _, .nil => rfl
  | _, _, .cons _ b => by
    show _ + 1 = _ + 1
    rw [wellAll_len b]
theorem well_list {P : Params} {h : Heap} {v : Value} {ds : List WData} (x : Well P h v (.list ds)) : ∃ (a : Addr) (vs : List Value), v = .ref a ∧ h.get? a = some { cls := .type "list", data := .seq vs.toArray } ∧ WellAll P h vs ds := by
  cases x with
  | list ho hall => exact ⟨_, _, rfl, ho, hall⟩
theorem well_tuple {P : Params} {h : Heap} {v : Value} {ds : List WData} (x : Well P h v (.tuple ds)) : ∃ (a : Addr) (vs : List Value), v = .ref a ∧ h.get? a = some { cls := .type "tuple", data := .seq vs.toArray } ∧ WellAll P h vs ds := by
  cases x with
  | tuple ho hall => exact ⟨_, _, rfl, ho, hall⟩
theorem well_cons {P : Params} {h : Heap} {us : List Value} {d : WData} {ds : List WData} (x : WellAll P h us (d :: ds)) : ∃ (v : Value) (vs : List Value), us = v :: vs ∧ Well P h v d ∧ WellAll P h vs ds := by
  cases x with
  | cons a b => exact ⟨_, _, rfl, a, b⟩
theorem line_of {n : Nat} (h : n ≤ 1048576) : n ≤ sizeLine := Nat.le_trans h (by decide)
section
variable {P : Params} {h : Heap}
mutual
theorem area_one : ∀ (d : WData) (v : Value), Well P h v d → plW d = true → d.weight ≤ 1048576 → ∃ A : List Addr, OkU A v ∧ ∀ a ∈ A, ArgOb h A a
  | .none, _, x, _, _ => by
    cases x
    exact ⟨[], trivial, fun a m => absurd m (by simp)⟩
  | .bool b, _, x, _, _ => by
    cases x
    exact ⟨[], trivial, fun a m => absurd m (by simp)⟩
  | .int i, _, x, _, _ => by
    cases x
    exact ⟨[], trivial, fun a m => absurd m (by simp)⟩
  | .str s, _, x, _, _ => by
    cases x
    exact ⟨[], trivial, fun a m => absurd m (by simp)⟩
  | .bytes b, _, x, _, _ => by
    cases x
    exact ⟨[], trivial, fun a m => absurd m (by simp)⟩
  | .list ds, _, x, p, z => by
    obtain ⟨a, vs, rfl, ho, hall⟩ := well_list x
    have z2 : WData.weightAll ds ≤ 1048576 := z
    obtain ⟨A, h1, h2⟩ := area_all ds _ hall p fun d hd => Nat.le_trans (weight_mem hd) z2
    have k : ∀ b ∈ A, b ∈ a :: A := fun b hb => List.mem_cons_of_mem _ hb
    refine ⟨a :: A, List.mem_cons_self .., fun b hb => ?_⟩
    rcases List.mem_cons.mp hb with e | m
    · rw [e]
      exact ⟨vs, line_of (by rw [wellAll_len hall]; exact Nat.le_trans (PySem.W.length_le_weightAllW ds) z2), fun u hu => (h1 u hu).mono k, .inl ho⟩
    · exact (h2 b m).mono k
  | .tuple ds, _, x, p, z => by
    obtain ⟨a, vs, rfl, ho, hall⟩ := well_tuple x
    have z2 : WData.weightAll ds ≤ 1048576 := z
    obtain ⟨A, h1, h2⟩ := area_all ds _ hall p fun d hd => Nat.le_trans (weight_mem hd) z2
    have k : ∀ b ∈ A, b ∈ a :: A := fun b hb => List.mem_cons_of_mem _ hb
    refine ⟨a :: A, List.mem_cons_self .., fun b hb => ?_⟩
    rcases List.mem_cons.mp hb with e | m
    · rw [e]
      exact ⟨vs, line_of (by rw [wellAll_len hall]; exact Nat.le_trans (PySem.W.length_le_weightAllW ds) z2), fun u hu => (h1 u hu).mono k, .inr ho⟩
    · exact (h2 b m).mono k
  | .float _, _, _, p, _ => Bool.noConfusion (show false = true from p)
  | .dict _, _, _, p, _ => Bool.noConfusion (show false = true from p)
  | .bytearray _, _, _, p, _ => Bool.noConfusion (show false = true from p)
  | .set _, _, _, p, _ => Bool.noConfusion (show false = true from p)
  | .frozenset _, _, _, p, _ => Bool.noConfusion (show false = true from p)
  | .obj _ _, _, _, p, _ => Bool.noConfusion (show false = true from p)
theorem area_all : ∀ (ds : List WData) (vs : List Value), WellAll P h vs ds → plWs ds = true → (∀ d ∈ ds, d.weight ≤ 1048576) → ∃ A : List Addr, (∀ u ∈ vs, OkU A u) ∧ ∀ a ∈ A, ArgOb h A a
  | [], _, x, _, _ => by
    cases x
    exact ⟨[], fun u m => absurd m (by simp), fun a m => absurd m (by simp)⟩
  | d :: ds, _, x, p, z => by
    obtain ⟨v, vs, rfl, x1, x2⟩ := well_cons x
    have q : plW d = true ∧ plWs ds = true := Bool.and_eq_true_iff.mp p
    obtain ⟨A, a1, a2⟩ := area_one d v x1 q.1 (z d (List.mem_cons_self ..))
    obtain ⟨B, b1, b2⟩ := area_all ds vs x2 q.2 fun e he => z e (List.mem_cons_of_mem _ he)
    have kA : ∀ b ∈ A, b ∈ A ++ B := fun b hb => List.mem_append.mpr (.inl hb)
    have kB : ∀ b ∈ B, b ∈ A ++ B := fun b hb => List.mem_append.mpr (.inr hb)
    refine ⟨A ++ B, fun u hu => ?_, fun b hb => ?_⟩
    · rcases List.mem_cons.mp hu with e | m
      · rw [e]
        exact a1.mono kA
      · exact (b1 u m).mono kB
    · rcases List.mem_append.mp hb with m | m
      · exact (a2 b m).mono kA
      · exact (b2 b m).mono kB
end
end
/-- what is tracked of an argument's object -/
def hoOf (o : Obj) : Option HO := match o.data with
  | .seq vs _ => if (o.cls == Value.type "list") = true then some (.frz o (.lst (vs.toList.map toV))) else some (.frz o (.tup (vs.toList.map toV)))
  | _ => none
def argH (K : PySem.W.Frag) (h : Heap) (A : List Addr) : Hp := fun b => if b ∈ A then (if (K.lookup b).isNone = true then (h.get? b).bind hoOf else none) else none
/-- nothing is tracked but what is known to the object -/
def OnlyF (H : Hp) : Prop := ∀ b, H b = none ∨ ∃ o u, H b = some (.frz o u)
theorem hoOf_lst (vs : List Value) : hoOf { cls := .type "list", data := .seq vs.toArray } = some (.frz { cls := .type "list", data := .seq vs.toArray } (.lst (vs.map toV))) := by
  show (if (Value.type "list" == Value.type "list") = true then some (HO.frz { cls := .type "list", data := .seq vs.toArray } (.lst (vs.toArray.toList.map toV))) else some (HO.frz { cls := .type "list", data := .seq vs.toArray } (.tup (vs.toArray.toList.map toV)))) = _
  rw [if_pos (beq_self_eq_true _)]
theorem hoOf_tup (vs : List Value) : hoOf { cls := .type "tuple", data := .seq vs.toArray } = some (.frz { cls := .type "tuple", data := .seq vs.toArray } (.tup (vs.map toV))) := by
  show (if (Value.type "tuple" == Value.type "list") = true then some (HO.frz { cls := .type "tuple", data := .seq vs.toArray } (.lst (vs.toArray.toList.map toV))) else some (HO.frz { cls := .type "tuple", data := .seq vs.toArray } (.tup (vs.toArray.toList.map toV)))) = _
  rw [if_neg (by decide)]
section
variable {P : Program} {w : World} {K : PySem.W.Frag} {h : Heap} {A : List Addr}
theorem argH_at {b : Addr} {o : Obj} (hb : b ∈ A) (hk : K.lookup b = none) (e : h.get? b = some o) : argH K h A b = hoOf o := by
  unfold argH
  rw [if_pos hb, hk, if_pos (show (none : Option Obj).isNone = true from rfl), e] <;> rfl
theorem of_argH {b : Addr} {u : HO} (q : argH K h A b = some u) : b ∈ A ∧ K.lookup b = none := by
  unfold argH at q
  by_cases hb : b ∈ A
  · rw [if_pos hb] at q
    cases hk : K.lookup b with
    | none => exact ⟨hb, rfl⟩
    | some o =>
      rw [hk, if_neg (by simp)] at q
      cases q
  · rw [if_neg hb] at q
    cases q
/-- what stands tracked -/
theorem argH_is (ar : ∀ a ∈ A, ArgOb h A a) {b : Addr} {u : HO} (q : argH K h A b = some u) : K.lookup b = none ∧ ∃ vs : List Value, vs.length ≤ sizeLine ∧ (∀ u ∈ vs, OkU A u) ∧
    ((h.get? b = some { cls := .type "list", data := .seq vs.toArray } ∧ u = .frz { cls := .type "list", data := .seq vs.toArray } (.lst (vs.map toV))) ∨
     (h.get? b = some { cls := .type "tuple", data := .seq vs.toArray } ∧ u = .frz { cls := .type "tuple", data := .seq vs.toArray } (.tup (vs.map toV)))) := by
  obtain ⟨hb, hk⟩ := of_argH q
  obtain ⟨vs, h1, h2, h3⟩ := ar b hb
  refine ⟨hk, vs, h1, h2, ?_⟩
  rcases h3 with e | e
  · rw [argH_at hb hk e, hoOf_lst] at q
    exact .inl ⟨e, (Option.some.inj q).symm⟩
  · rw [argH_at hb hk e, hoOf_tup] at q
    exact .inr ⟨e, (Option.some.inj q).symm⟩
theorem argH_only (ar : ∀ a ∈ A, ArgOb h A a) : OnlyF (argH K h A) := fun b => by
  cases q : argH K h A b with
  | none => exact .inl rfl
  | some u =>
    obtain ⟨_, vs, _, _, ⟨_, e⟩ | ⟨_, e⟩⟩ := argH_is ar q
    · exact .inr ⟨_, _, by rw [e]⟩
    · exact .inr ⟨_, _, by rw [e]⟩
theorem argH_ok (ar : ∀ a ∈ A, ArgOb h A a) : HOk P w (argH K h A) h := fun b u q => by
  obtain ⟨_, vs, h1, h2, ⟨e, rfl⟩ | ⟨e, rfl⟩⟩ := argH_is ar q
  · exact ⟨e, by rw [List.length_map]; exact h1, vs, _, vals_toV h2, e⟩
  · exact ⟨e, by rw [List.length_map]; exact h1, vs, vals_toV h2, _, e, rfl, _, rfl⟩
theorem seq_inj {c c' : Value} {vs us : List Value} (e : (some { cls := c, data := .seq vs.toArray } : Option Obj) = some { cls := c', data := .seq us.toArray }) : c = c' ∧ vs = us := by
  have e1 := Option.some.inj e
  have e2 : c = c' := congrArg Obj.cls e1
  have e3 : Data.seq vs.toArray = Data.seq us.toArray := congrArg Obj.data e1
  injection e3 with e4
  refine ⟨e2, ?_⟩
  have e5 := congrArg Array.toList e4
  simpa using e5
/-- a list argument -/
theorem argL (KX : K.In h) (ar : ∀ a ∈ A, ArgOb h A a) {a : Addr} {vs : List Value} (ha : a ∈ A) (e : h.get? a = some { cls := .type "list", data := .seq vs.toArray }) : (∀ u ∈ vs, OkU A u) ∧ SqL K (argH K h A) a (vs.map toV) := by
  obtain ⟨us, h1, h2, h3⟩ := ar a ha
  have hu : us = vs := by
    rcases h3 with q | q
    · rw [e] at q
      exact (seq_inj q).2.symm
    · rw [e] at q
      exact absurd (Value.type.inj (seq_inj q).1) (by decide)
  subst hu
  refine ⟨h2, ?_⟩
  cases hk : K.lookup a with
  | none => exact .inl (.inr ⟨_, by rw [argH_at ha hk e, hoOf_lst]⟩)
  | some o =>
    have e2 := KX a o hk
    rw [e] at e2
    obtain rfl := Option.some.inj e2
    exact .inr ⟨_, us.toArray, _, hk, rfl, rfl, rfl, by rw [List.size_toArray]; exact h1, by simpa using vals_toV h2⟩
theorem argT (KX : K.In h) (ar : ∀ a ∈ A, ArgOb h A a) {a : Addr} {vs : List Value} (ha : a ∈ A) (e : h.get? a = some { cls := .type "tuple", data := .seq vs.toArray }) : (∀ u ∈ vs, OkU A u) ∧ SqT K (argH K h A) a (vs.map toV) := by
  obtain ⟨us, h1, h2, h3⟩ := ar a ha
  have hu : us = vs := by
    rcases h3 with q | q
    · rw [e] at q
      exact absurd (Value.type.inj (seq_inj q).1) (by decide)
    · rw [e] at q
      exact (seq_inj q).2.symm
  subst hu
  refine ⟨h2, ?_⟩
  cases hk : K.lookup a with
  | none => exact .inl (.inr ⟨_, by rw [argH_at ha hk e, hoOf_tup]⟩)
  | some o =>
    have e2 := KX a o hk
    rw [e] at e2
    obtain rfl := Option.some.inj e2
    exact .inr ⟨_, us.toArray, _, hk, rfl, rfl, by rw [List.size_toArray]; exact h1, by simpa using vals_toV h2⟩
mutual
theorem dw_one {Pm : Params} (KX : K.In h) (ar : ∀ a ∈ A, ArgOb h A a) : ∀ (d : WData) (v : Value), Well Pm h v d → plW d = true → OkU A v → Dw K (argH K h A) (toV v) d
  | .none, _, x, _, _ => by
    cases x
    exact .non
  | .bool b, _, x, _, _ => by
    cases x
    exact .bl b
  | .int i, _, x, _, _ => by
    cases x
    exact .int i
  | .str s, _, x, _, _ => by
    cases x
    exact .str s
  | .bytes b, _, x, _, _ => by
    cases x
    have z := Dw.byt (K := K) (H := argH K h A) b.toArray
    exact z
  | .list ds, _, x, p, hu => by
    obtain ⟨a, vs, rfl, ho, hall⟩ := well_list x
    obtain ⟨h2, hs⟩ := argL KX ar hu ho
    exact .lst hs (dw_all KX ar ds _ hall p h2)
  | .tuple ds, _, x, p, hu => by
    obtain ⟨a, vs, rfl, ho, hall⟩ := well_tuple x
    obtain ⟨h2, hs⟩ := argT KX ar hu ho
    exact .tup hs (dw_all KX ar ds _ hall p h2)
  | .float _, _, _, p, _ => Bool.noConfusion (show false = true from p)
  | .dict _, _, _, p, _ => Bool.noConfusion (show false = true from p)
  | .bytearray _, _, _, p, _ => Bool.noConfusion (show false = true from p)
  | .set _, _, _, p, _ => Bool.noConfusion (show false = true from p)
  | .frozenset _, _, _, p, _ => Bool.noConfusion (show false = true from p)
  | .obj _ _, _, _, p, _ => Bool.noConfusion (show false = true from p)
theorem dw_all {Pm : Params} (KX : K.In h) (ar : ∀ a ∈ A, ArgOb h A a) : ∀ (ds : List WData) (vs : List Value), WellAll Pm h vs ds → plWs ds = true → (∀ u ∈ vs, OkU A u) → DwAll K (argH K h A) (vs.map toV) ds
  | [], _, x, _, _ => by
    cases x
    exact .nil
  | d :: ds, _, x, p, hu => by
    obtain ⟨v, vs, rfl, x1, x2⟩ := well_cons x
    have q : plW d = true ∧ plWs ds = true := Bool.and_eq_true_iff.mp p
    exact .cons (dw_one KX ar d v x1 q.1 (hu _ (List.mem_cons_self ..))) (dw_all KX ar ds vs x2 q.2 fun u m => hu u (List.mem_cons_of_mem _ m))
end
end
/-! ### the call -/
theorem spec_call {P : Program} {w : World} {K : PySem.W.Frag} {mg mb : Str → Option Value} {CX : CXT} {k : Nat} {fa : Addr} {fd : FuncData} {ps : List Str} {sp : Sp} {s₁ : Shared} {vals : List Value} {ds : List WData} {R : PySem.W.WRecords} {cl : Str → Option Addr} {d0 : WData}
    (KX : K.In s₁.heap) (hns : s₁.heap.Ns mainGlobals mg) (hb : s₁.heap.Ns builtinsNs mb) (hbb : ∀ x : Str, x ≠ "__name__" → mb x = bootBuiltins x) (hlim : s₁.heap.NoLimit) (hg : s₁.gens = #[])
    (hwl : WellAll w.params s₁.heap vals ds) (hpl : plWs ds = true) (hwt : ∀ d ∈ ds, d.weight ≤ 1048576) (hr : Room k callerA)
    (F : ∀ base : Heap, K.In base → base.Ns mainGlobals mg → FnOk P w K mg base CX k fa fd ps sp) (hbind : ∀ (s : Shared) (us : List Value), us.length = ps.length → BindsTo s fd ⟨us, []⟩ (ps.zip us)) (hlen : ds.length = ps.length)
    (hsp : ∀ (H : Hp) (xs : List V), OnlyF H → DwAll K H xs ds → sp xs H (fun v H' => Dw K H' v d0) fun _ _ _ => False)
    (hCX : ∀ H e s', CX [] H s₁ (fun _ _ _ => False) e s' → False) :
    codeAny (model P w) callerA (.call (.ref fa) ⟨vals, []⟩) (fun r s' => ∃ u as, r = .ok (.ret u) ∧ ReadsW R cl s'.heap u d0 as ∧ OldK s₁.heap s'.heap ∧ s'.os = s₁.os ∧ AllBare s'.gens) s₁ := by
  obtain ⟨A, ho, ar⟩ := area_all ds vals hwl hpl hwt
  have hO : OnlyF (argH K s₁.heap A) := argH_only ar
  have hok : HOk P w (argH K s₁.heap A) s₁.heap := argH_ok ar
  have hS := dw_all KX ar ds vals hwl hpl ho
  have hV := vals_toV ho
  have hK : ∀ b u, argH K s₁.heap A b = some u → K.lookup b = none := fun b u q => (argH_is ar q).1
  have noA : ∀ {b : Addr} {o : Obj} {es : Array DictEntry} {ep : Nat}, s₁.heap.get? b = some o → o.data = .dict es ep → argH K s₁.heap A b = none := fun {b o es ep} e d => by
    cases q : argH K s₁.heap A b with
    | none => rfl
    | some u =>
      obtain ⟨_, vs, _, _, ⟨e2, _⟩ | ⟨e2, _⟩⟩ := argH_is ar q
      · rw [e2] at e
        cases e
        have d' : Data.seq vs.toArray _ = Data.dict es ep := d
        cases d'
      · rw [e2] at e
        cases e
        have d' : Data.seq vs.toArray _ = Data.dict es ep := d
        cases d'
  generalize argH K s₁.heap A = H at hO hok hS hK noA
  have base_of : ∀ {b : Addr} {o : Obj}, s₁.heap.get? b = some o → H b = none → (hidT s₁.heap H).get? b = some o := fun e n => hidT_get e n
  have nsK : ∀ {b : Addr} {m : Str → Option Value}, s₁.heap.Ns b m → (hidT s₁.heap H).Ns b m := fun {b m} ⟨o, es, ep, e, d, r⟩ => ⟨o, es, ep, base_of e (noA e d), d, r⟩
  have nK : ∀ b o, K.lookup b = some o → H b = none := fun b o e => by
    cases q : H b with
    | none => rfl
    | some u =>
      rw [hK b u q] at e
      cases e
  have hKb : K.In (hidT s₁.heap H) := fun b o e => base_of (KX b o e) (nK b o e)
  have hM : Mod K mg (hidT s₁.heap H) := ⟨hKb, nsK hns, ⟨mb, nsK hb, hbb⟩, let ⟨mc, h1, h2⟩ := hlim; ⟨mc, nsK h1, h2⟩⟩
  have e0 : Env0 P w K mg (hidT s₁.heap H) callerA [] s₁ H := ⟨rfl, hM, fun b o e => of_hidT e, Nat.le_of_eq (hidT_size _ _), trivial, fun b hb => absurd (show b ∈ ([] : List Addr) from hb) (by simp), hok, .of_eq hg⟩
  have hl : vals.length = ps.length := by rw [wellAll_len hwl]; exact hlen
  refine codeAny_mono ((F _ hKb (nsK hns)).run callerA [] s₁ H ⟨vals, []⟩ vals (vals.map toV) _ _ hr e0 (hbind s₁ vals hl) hV (hsp H _ hO hS)) fun r s' x => ?_
  cases r with
  | error e => exact (hCX H e s' x).elim
  | ok fl =>
    cases fl with
    | next => exact False.elim x
    | brk => exact False.elim x
    | cont => exact False.elim x
    | ret u =>
      obtain ⟨v, H', os, bare, un, hok', r', q⟩ := x
      have kept : ∀ b o, s₁.heap.get? b = some o → s'.heap.get? b = some o := fun b o e => by
        cases q2 : H b with
        | none => exact un.keep b o e q2 (by intro z; exact absurd (show b ∈ ([] : List Addr) from z) (by simp)) (by simp)
        | some u2 =>
          rcases hO b with z | ⟨ob, u3, z⟩
          · rw [q2] at z
            cases z
          · have z2 := un.frzs b ob _ z
            obtain ⟨e1, _⟩ := hok b _ z
            obtain ⟨e2, _⟩ := hok' b _ z2
            rw [e] at e1
            cases e1
            exact e2
      have KX' : K.In s'.heap := fun b o e => kept b o (KX b o e)
      obtain ⟨as, hrd⟩ := Dw.reads (R := R) (cl := cl) hok' KX' d0 v u q r'
      exact ⟨u, as, rfl, hrd, OldK.of_keep kept, os, bare⟩
/-! ### the row -/
theorem layable_weight {ds : List WData} (h : WData.layableAll ds = true) : ∀ d ∈ ds, d.weight ≤ 1048576 := fun d hd =>
  (PySem.W.layableW_iff.mp (List.all_eq_true.mp h d hd)).2.2
theorem encAll_len : ∀ (cs : List Codec) (a : Codec.denoteAll cs), (Codec.encAll cs a).length = cs.length
  | [], _ => rfl
  | c :: cs, a => by
    show (Codec.encAll cs a.2).length + 1 = cs.length + 1
    rw [encAll_len cs a.2]
/-- the goal that k_headS leaves (case hc), from the promise of the row's def: whatever the arguments that the codecs let and the row asks for, the def gives what stands for enc (f ..) -/
theorem walk_spec {r : OpenSpec} {k : Nat} {q : Program} {loose : List Str} {XP : (Str → Option Value) → Heap → Prop} {YP : World → Heap → Prop} {d : DefRec} {K : Params → PySem.W.Frag} {CX : World → CXT} {ps : List Str} {sp : World → Sp}
    (hwell : r.wellSaid = true) (hdf : d.params.defaults = []) (hlen : r.args.length = ps.length) (hr : Room k callerA)
    (hY : ∀ (w : World) (h : Heap), YP w h → (K w.params).In h)
    (F : ∀ (w : World) (mg : Str → Option Value) (fa : Addr) (h : Heap), YP w h → (K w.params).In h → h.Ns mainGlobals mg → mg d.name = some (.ref fa) →
      ∃ fd : FuncData, (∀ (s : Shared) (us : List Value), us.length = ps.length → BindsTo s fd ⟨us, []⟩ (ps.zip us)) ∧
        ∀ base : Heap, (K w.params).In base → base.Ns mainGlobals mg → FnOk r.prog w (K w.params) mg base (CX w) k fa fd ps (sp w))
    (hsp : ∀ (w : World) (H : Hp) (xs : List V) (a : Codec.denoteAll r.args), OnlyF H → Codec.withinAll r.args a = true → Codec.app r.args r.asked a = true → DwAll (K w.params) H xs (Codec.encAll r.args a) →
      sp w xs H (fun v H' => Dw (K w.params) H' v (r.ret.enc (Codec.app r.args r.f a))) fun _ _ _ => False)
    (hCX : ∀ (w : World) (H : Hp) (s : Shared) (e : Value) (s' : Shared), CX w [] H s (fun _ _ _ => False) e s' → False) :
    PySem.W.WalkOS q loose XP YP r d [] (fun f vs => PySem.call f vs) := by
  intro w s_0 s₁ mg mb G Y fa o pm cd doc dV kV ho hd hcd hD hmg hg args vals as hpre hlay hrd hwl hlo
  obtain ⟨a, e1, e2⟩ := PySem.W.os_pre_some hpre
  obtain ⟨e3, hwi⟩ := Codec.encAll_of_decAll r.args args a e1
  subst e3
  have KX := hY w _ Y
  obtain ⟨fd, hb, hF⟩ := F w mg fa _ Y KX G.T.g hmg
  refine PySem.W.enter_call (codeAny_mono (spec_call (R := []) (cl := classAt s_0.heap) (d0 := r.ret.enc (Codec.app r.args r.f a)) KX G.T.g G.T.b G.T.builtins G.T.nolimit hg hwl (pl_encAll _ _) (layable_weight hlay) hr hF hb (by rw [encAll_len]; exact hlen)
    (fun H xs hO hS => hsp w H xs a hO hwi e2 hS) fun H e s' => hCX w H s₁ e s') fun r' s' hq => ?_)
  obtain ⟨u, as', rfl, h1, h2, h3, h4⟩ := hq
  exact ⟨.inl ⟨u, _, as', rfl, fun _ => rfl, h1, (OpenSpec.post_iff hwell hwi _ _).mpr rfl, fun z => Bool.noConfusion (show false = true from z)⟩, h2, h3, h4⟩
/-- the same where the promise hangs on the written part alone -/
theorem walk_specK {r : OpenSpec} {k : Nat} {q : Program} {loose : List Str} {XP : (Str → Option Value) → Heap → Prop} {YP : World → Heap → Prop} {d : DefRec} {K : Params → PySem.W.Frag} {CX : CXT} {ps : List Str} {sp : PySem.W.Frag → Sp}
    (hwell : r.wellSaid = true) (hdf : d.params.defaults = []) (hlen : r.args.length = ps.length) (hr : Room k callerA)
    (hY : ∀ (w : World) (h : Heap), YP w h → (K w.params).In h)
    (F : ∀ (w : World) (mg : Str → Option Value) (fa : Addr) (h : Heap), YP w h → (K w.params).In h → h.Ns mainGlobals mg → mg d.name = some (.ref fa) →
      ∃ fd : FuncData, (∀ (s : Shared) (us : List Value), us.length = ps.length → BindsTo s fd ⟨us, []⟩ (ps.zip us)) ∧
        ∀ base : Heap, (K w.params).In base → base.Ns mainGlobals mg → FnOk r.prog w (K w.params) mg base CX k fa fd ps (sp (K w.params)))
    (hsp : ∀ (K : PySem.W.Frag) (H : Hp) (xs : List V) (a : Codec.denoteAll r.args), OnlyF H → Codec.withinAll r.args a = true → Codec.app r.args r.asked a = true → DwAll K H xs (Codec.encAll r.args a) →
      sp K xs H (fun v H' => Dw K H' v (r.ret.enc (Codec.app r.args r.f a))) fun _ _ _ => False)
    (hCX : ∀ (H : Hp) (s : Shared) (e : Value) (s' : Shared), CX [] H s (fun _ _ _ => False) e s' → False) :
    PySem.W.WalkOS q loose XP YP r d [] (fun f vs => PySem.call f vs) :=
  walk_spec (K := K) (CX := fun _ => CX) (sp := fun w => sp (K w.params)) hwell hdf hlen hr hY F (fun w H xs a h1 h2 h3 h4 => hsp (K w.params) H xs a h1 h2 h3 h4) fun _ H s e s' => hCX H s e s'
end L2
end

set_option Elab.async false
set_option linter.all false
set_option maxRecDepth 100000
/-! rules that the hand layer lacks: enumerate over a tuple, a comprehension over a text -/
namespace L2
open PySem PySem.Spec PyProof.Rows

section
variable {prog : Program} {w : World} {A : Around} {E : Value → Shared → Prop} {s : Shared}
theorem ntup_item {it t : Addr} {i : Nat} {items : Array Value} {x : Value} {Q : Value → Shared → Prop} (hit : s.heap.IsTupleIter it t i) (ht : s.heap.IsTuple t items) (hx : items[i]? = some x)
    (hQ : ∀ h', h'.IsTupleIter it t (i + 1) → Heap.SameBut it s.heap h' → Q x { s with heap := h' }) : wpAny (model prog w) A (Builtin.SmallTypes.nextOf (.ref it)) Q E s := by
  obtain ⟨oi, hoi, hci, hdi⟩ := id hit
  obtain ⟨ot, hot, _, nt, hdt⟩ := ht
  unfold Builtin.SmallTypes.nextOf
  refine wpAny_bind (wpAny_callSpecial?_slot (name := Str.ofString "__next__") hit.typeIs F.slot_tuple_iterator_next (wpAny_call_entry F.slot_tuple_iterator_next hit.typeIs F.entry_tuple_iterator_next ?_ (F.args_tuple_iterator_next_1 _)))
  show wpAny _ _ (field (.ref it) 0 >>= _) _ _ s
  refine wpAny_bind (wpAny_field hoi hdi (x := .ref t) rfl ?_)
  show wpAny _ _ (if (Value.ref t == Value.none) = true then _ else _) _ _ s
  rw [if_neg (by intro z; exact Bool.false_ne_true z)]
  show wpAny _ _ (field (.ref it) 1 >>= _) _ _ s
  refine wpAny_bind (wpAny_field hoi hdi (x := .int i 0) rfl ?_)
  show wpAny _ _ (seqItems? (.ref t) >>= _) _ _ s
  refine wpAny_bind (wpAny_seqItems hot hdt ?_)
  simp only [Int.toNat_natCast, hx]
  refine wpAny_bind (wpAny_setField hoi hdi (by simp) (wpAny_pure ⟨x, rfl, wpAny_pure (hQ _ ⟨_, Heap.get?_update_self _ hoi (Obj.isFreed_of_fields (Obj.data_mapFields hdi _)), (Obj.cls_mapFields ..).trans hci, ?_⟩ (Heap.SameBut.update ..))⟩))
  rw [Obj.data_mapFields hdi]
  simp [rawInt]
theorem ntup_end {it t : Addr} {i : Nat} {items : Array Value} {Q : Value → Shared → Prop} (hh : A.handled = none) (hit : s.heap.IsTupleIter it t i) (ht : s.heap.IsTuple t items) (hx : items[i]? = none)
    (hE : ∀ h' e, Heap.ExtBut it s.heap h' → (∃ o, h'.get? e = some o ∧ o.cls = .type "StopIteration") → E (.ref e) { s with heap := h' }) : wpAny (model prog w) A (Builtin.SmallTypes.nextOf (.ref it)) Q E s := by
  obtain ⟨oi, hoi, hci, hdi⟩ := id hit
  obtain ⟨ot, hot, _, nt, hdt⟩ := ht
  unfold Builtin.SmallTypes.nextOf
  refine wpAny_bind (wpAny_callSpecial?_slot (name := Str.ofString "__next__") hit.typeIs F.slot_tuple_iterator_next (wpAny_call_entry F.slot_tuple_iterator_next hit.typeIs F.entry_tuple_iterator_next ?_ (F.args_tuple_iterator_next_1 _)))
  show wpAny _ _ (field (.ref it) 0 >>= _) _ _ s
  refine wpAny_bind (wpAny_field hoi hdi (x := .ref t) rfl ?_)
  show wpAny _ _ (if (Value.ref t == Value.none) = true then _ else _) _ _ s
  rw [if_neg (by intro z; exact Bool.false_ne_true z)]
  show wpAny _ _ (field (.ref it) 1 >>= _) _ _ s
  refine wpAny_bind (wpAny_field hoi hdi (x := .int i 0) rfl ?_)
  show wpAny _ _ (seqItems? (.ref t) >>= _) _ _ s
  refine wpAny_bind (wpAny_seqItems hot hdt ?_)
  simp only [Int.toNat_natCast, hx]
  refine wpAny_bind (wpAny_rule (wpAny_bind (wpAny_setField hoi hdi (by simp) ?_)))
  show wpAny _ _ (newExc (.type "StopIteration") [] >>= _) _ _ _
  refine wpAny_bind ?_
  simp only [newExc, newTuple]
  refine wpAny_bind (wpAny_newObj_type ?_ (by size_fits))
  refine wpAny_bind (m := firstArgMember _ _) (wpAny_of_eq (a := Value.none) (by first | rfl | (simp only [firstArgMember]; rfl)) ?_)
  refine wpAny_newObj_type ?_ (by size_fits)
  simp only [raiseNew]
  refine wpAny_bind (wpAny_handled ?_)
  first | rw [show A.in1.handled = none from hh] | rw [hh]
  refine wpAny_bind (wpAny_pure (wpAny_throw (hE _ _ (((Heap.SameBut.update ..).extBut.push _).push _) ⟨_, Heap.get?_push_size _ rfl, rfl⟩)))
end
theorem drawsT {prog : Program} {w : World} {A : Around} (hh : A.handled = none) (it t : Addr) (hne : t ≠ it) (items : Array Value) :
    Draws prog w A it [it, t] items.size (fun i v => items[i]? = some v) (fun i h => h.IsTupleIter it t i ∧ h.IsTuple t items) where
  live := fun _ _ st => let ⟨o, ho, _⟩ := st.1; ⟨o, ho⟩
  frame := fun _ _ _ st hk => ⟨(let ⟨o, ho, r⟩ := st.1; ⟨o, hk it (by simp) o ho, r⟩), (let ⟨o, ho, r⟩ := st.2; ⟨o, hk t (by simp) o ho, r⟩)⟩
  item := fun i s Q E hi st hQ => ntup_item st.1 st.2 (x := items[i]) (by simp [hi]) fun h' hit' hs' => hQ _ h' s.toks (by simp [hi]) ⟨hit', st.2.extBut hs'.extBut hne⟩ hs'
  done := fun s Q E st hE => ntup_end hh st.1 st.2 (by simp) hE
set_option maxHeartbeats 2000000 in
theorem meets_enumT (l : Addr) (items : Array Value) (n : Nat) (dct : Option Addr) (sl : Array (Option Value)) :
    Meets (Builtin.«enumerate.__new__» ⟨[.type "enumerate", .ref l], []⟩) (fun _ R s => s.heap.get? l = some { cls := .type "tuple", dict := dct, data := .seq items n, slots := sl } ∧
      R (.ok (.ret (.ref (s.heap.push { cls := .type "tuple_iterator", data := .fields #[.ref l, .int 0 0] }).objs.size)))
        { s with heap := (s.heap.push { cls := .type "tuple_iterator", data := .fields #[.ref l, .int 0 0] }).push { cls := .type "enumerate", data := .fields #[.none, .bool false, .ref s.heap.objs.size, rawInt 0, .none, .none] } }) :=
  .of_wp fun prog w A R s h => by
    obtain ⟨hp, g, d, tk, os⟩ := s
    obtain ⟨hl, h⟩ := h
    have hsub := sub_enumerate
    have hT : Heap.IsTuple (Shared.heap ⟨hp, g, d, tk, os⟩) l items := ⟨_, hl, rfl, n, rfl⟩
    wp_walk using AutoSeq1.wpAny_loadPart' hl
    refine wpAny_stack_any fun st => wpAny_pure ?_
    split
    · rename_i c _ _ _ _ _
      cases (c == Value.type "enumerate")
      · wp_walk using AutoSeq1.wpAny_loadPart' hl, wpAny_pyIter_tuple hT
        exact ⟨_, rfl, h⟩
      · wp_walk using AutoSeq1.wpAny_loadPart' hl, wpAny_pyIter_tuple hT
        exact ⟨_, rfl, h⟩
    · wp_walk using AutoSeq1.wpAny_loadPart' hl, wpAny_pyIter_tuple hT
      exact ⟨_, rfl, h⟩
theorem call_enumT {prog : Program} {w : World} {A : Around} {E : Value → Shared → Prop} {s : Shared} {l : Addr} {items : Array Value} {Q : Value → Shared → Prop} (hL : s.heap.IsTuple l items)
    (h : ∀ h', IsEnum h' (s.heap.objs.size + 1) s.heap.objs.size 0 .none → h'.IsTupleIter s.heap.objs.size l 0 → h'.objs.size = s.heap.objs.size + 2 →
      (∀ b o, s.heap.get? b = some o → h'.get? b = some o) → Q (.ref (s.heap.objs.size + 1)) { s with heap := h' }) : wpAny (model prog w) A (call (.type "enumerate") [.ref l]) Q E s := by
  obtain ⟨⟨c, dct, dt, sl⟩, hl, hc, n, hd⟩ := hL
  replace hc : c = .type "tuple" := hc
  replace hd : dt = .seq items n := hd
  subst hc hd
  refine callType_new F.called_enumerate (by decide) (F.typeCall_enumerate_1 _) (F.newCall_enumerate_1 _) (fun obj => F.args_object_init_2 obj _) F.entry_enumerate_new (meets_enumT l items n dct sl) ⟨hl, ?_⟩
  have hz : (s.heap.push { cls := .type "tuple_iterator", data := .fields #[.ref l, .int 0 0] }).objs.size = s.heap.objs.size + 1 := Heap.size_push ..
  show _ ∧ _
  rw [hz]
  have he : IsEnum ((s.heap.push { cls := .type "tuple_iterator", data := .fields #[.ref l, .int 0 0] }).push { cls := .type "enumerate", data := .fields #[.none, .bool false, .ref s.heap.objs.size, rawInt 0, .none, .none] }) (s.heap.objs.size + 1) s.heap.objs.size 0 .none := by
    have z := Heap.get?_push_size (s.heap.push { cls := .type "tuple_iterator", data := .fields #[.ref l, .int 0 0] }) (o := { cls := .type "enumerate", data := .fields #[.none, .bool false, .ref s.heap.objs.size, rawInt 0, .none, .none] }) rfl
    rw [hz] at z
    exact z
  exact ⟨⟨_, he, rfl⟩, h _ he ⟨_, Heap.get?_push_of_some _ (Heap.get?_push_size _ rfl), rfl, rfl⟩ (by rw [Heap.size_push, hz]) fun b o x => Heap.get?_push_of_some _ (Heap.get?_push_of_some _ x)⟩
/-- the tuple at a, each item in a new pair -/
def Itet (K : PySem.W.Frag) (a : Addr) : It :=
  ⟨fun i H => ∃ (xs : List V) (x : V), SqT K H a xs ∧ xs[i]? = some x, fun i H v H' => ∃ T x, v = .ref T ∧ H T = none ∧ H' = upd H T (.tup [.int (i : Nat), x]) ∧ ∀ xs, SqT K H a xs → xs[i]? = some x, fun i H => ∃ xs : List V, SqT K H a xs ∧ xs.length = i⟩
theorem turn_enumT {P : Program} {w : World} {K : PySem.W.Frag} {elts : List Expr} {kk : Nat} {tpos : Pos} (a e it : Addr) :
    Turn P w K (.Tuple elts kk tpos) (Itet K a) [e, it] e (fun i h => (∃ old, IsEnum h e it ((i : Nat) : Int) old) ∧ h.IsTupleIter it a i ∧ e ≠ it) where
  mem := by simp
  obj := fun i h st b hb => by
    obtain ⟨⟨old, he⟩, ⟨o, ho, hc, hd⟩, _⟩ := st
    have e' : b = e ∨ b = it := by simpa using hb
    rcases e' with z | z
    · rw [z]; exact ⟨_, he, fun v q => nomatch q⟩
    · rw [z]; exact ⟨o, ho, fun v q => by rw [hd] at q; cases q⟩
  keep := fun i h h' st k => let ⟨⟨old, he⟩, ⟨o, ho, r⟩, hne⟩ := st; ⟨⟨old, k e (by simp) _ he⟩, ⟨o, k it (by simp) o ho, r⟩, hne⟩
  item := by
    intro X hP hw hK hc i pins s σ H E I hf st hg
    subst hP hw hK
    obtain ⟨⟨old, he⟩, hit, hne⟩ := st
    obtain ⟨xs, x, hq, hx⟩ := hg
    obtain ⟨its, rv, p, hz⟩ := I.tuple hq
    obtain ⟨u, hu, ru⟩ := rv.get hx
    have hel : e < s.heap.objs.size := Heap.lt_size he
    have hil : it < s.heap.objs.size := by obtain ⟨_, q, _⟩ := hit; exact Heap.lt_size q
    have hp : s.heap.IsTuple a its.toArray := p
    have hlt : i < its.toArray.size := by
      rw [List.size_toArray]
      exact (List.getElem?_eq_some_iff.mp hu).1
    have hti : a ≠ it := by
      intro z
      subst z
      obtain ⟨o1, h1, c1, _⟩ := hp
      obtain ⟨o2, h2, c2, _⟩ := hit
      rw [h1] at h2
      cases h2
      rw [c1] at c2
      exact absurd (Value.type.inj c2) (by decide)
    have hte : e ∉ [it, a] := by
      intro z
      have z' : e = it ∨ e = a := by simpa using z
      rcases z' with z' | z'
      · exact hne z'
      · subst z'
        obtain ⟨o1, h1, c1, _⟩ := hp
        rw [show s.heap.get? e = some _ from he] at h1
        cases h1
        exact absurd (Value.type.inj c1) (by decide)
    refine wpAny_pyNext_enum_itemD (drawsT (A := X.A.in1) (I.ok.hd hc) it a hti its.toArray) he ⟨hit, hp⟩ hlt hne hte fun y h' tk hy ho hst hT hsz hk => ?_
    have ey : y = u := by
      have z : its.toArray[i]? = some u := by simpa using hu
      exact Option.some.inj (hy.symm.trans z)
    subst ey
    refine ⟨_, rfl, wpAny_letOwnedTupleGo_enum (s := { s with heap := h', toks := tk + 1 }) ho fun h'' he' sb => ?_⟩
    have hT2 : h''.get? s.heap.objs.size = some { cls := .type "tuple", data := .seq #[.int i tk, y] } := (sb.2 _ (Nat.ne_of_gt hel)).trans hT
    have new : ObjOk X.prog X.w (upd H s.heap.objs.size (.tup [.int (i : Nat), x])) h'' s.heap.objs.size (.tup [.int (i : Nat), x]) :=
      ⟨by show 2 ≤ sizeLine; decide, [.int i tk, y], .cons ⟨_, rfl⟩ (.cons ru .nil), ⟨_, hT2, rfl, _, rfl⟩⟩
    have I1 : Inv X pins σ (upd H s.heap.objs.size (.tup [.int (i : Nat), x])) { s with heap := h'', toks := tk + 1 } :=
      I.turnedNew (ch := [e, it]) (fun b ob hb q => (sb.2 b (fun z => hb (by simp [z]))).trans (hk b ob (fun z => hb (by simp [z])) (fun z => hb (by simp [z])) q)) hf (Nat.le_refl _) new
    have hit'' : h''.IsTupleIter it a (i + 1) := by
      obtain ⟨o, ho2, r⟩ := hst.1
      exact ⟨o, (sb.2 it (Ne.symm hne)).trans ho2, r⟩
    refine ⟨.ref s.heap.objs.size, _, I1, rfl, ⟨_, x, rfl, I.hok.fresh (Nat.le_refl _), rfl, fun ys hy => by rw [I.tuple_inj hy hq]; exact hx⟩, ⟨⟨y, ?_⟩, hit'', hne⟩, fun b hb => ?_⟩
    · have e1 : ((i + 1 : Nat) : Int) = (i : Int) + 1 := by omega
      rw [e1]; exact he'
    · have hb' : b < s.heap.objs.size := by
        have e' : b = e ∨ b = it := by simpa using hb
        rcases e' with z | z
        · rw [z]; exact hel
        · rw [z]; exact hil
      rw [upd_ne (Nat.ne_of_lt hb')]
      exact (hf b hb).1
  done := by
    intro X hP hw hK hc i pins s σ H E I hf st hg
    subst hP hw hK
    obtain ⟨⟨old, he⟩, hit, hne⟩ := st
    obtain ⟨xs, hq, hx⟩ := hg
    obtain ⟨its, rv, p, hz⟩ := I.tuple hq
    obtain ⟨f0, f1, f2, f3, f4, f5⟩ := hf it (by simp)
    have hl := rv.length
    have hp : s.heap.IsTuple a its.toArray := p
    have hti : a ≠ it := by
      intro z
      subst z
      obtain ⟨o1, h1, c1, _⟩ := hp
      obtain ⟨o2, h2, c2, _⟩ := hit
      rw [h1] at h2
      cases h2
      rw [c1] at c2
      exact absurd (Value.type.inj c2) (by decide)
    have hsz : its.toArray.size = i := by rw [List.size_toArray]; omega
    refine wpAny_pyNext_enum_endD (drawsT (A := X.A.in1) (I.ok.hd hc) it a hti its.toArray) he ⟨by rw [hsz]; exact hit, hp⟩ fun h' eb => ⟨rfl, I.turned (t' := s.toks) (fun b o hb q => eb b o hb q) f0 f1 f3 f4 f5⟩
  self := fun A i s Q E st h => let ⟨⟨_, he⟩, _⟩ := st; wpAny_pyIter_enum he h
def iEnumT (K : PySem.W.Frag) (ta : TA) : TI := fun σ H R => ta σ H fun vs H1 => ∃ a xs, vs = [.ref a] ∧ SqT K H1 a xs ∧ R (Itet K a) H1
theorem pi_enumT {X : Cx} {e : Expr} {ta : TA} {p pos tpos : Pos} {elts : List Expr} {kk : Nat} (hg : Gl X "enumerate") (hm : X.mg "enumerate" = none) (ha : PA X [e] ta) (hs : starEach [e] X.env = [(false, eval e X.env)] := by rfl) :
    PI X (.Tuple elts kk tpos) (.Call (.Name "enumerate" p) [e] [] pos) (iEnumT X.K ta) := by
  intro pins s σ H R I h
  refine Call_ (ld_blt I hg hm boot_enumerate (PyProof.Rows.callWith_type1 (thn (ha pos pins s σ H _ I h) fun us s1 ⟨vs, H1, I1, r1, q1⟩ => ?_) hs rfl))
  obtain ⟨a, xs, ex, hq, q⟩ := q1
  subst ex
  cases r1 with
  | cons r rr =>
    cases rr
    cases r
    obtain ⟨its, rv, p', hz⟩ := I1.tuple hq
    refine call_enumT (show s1.heap.IsTuple a its.toArray from p') fun h' he hit hsz hk => wpAny_pyIter_enum he ?_
    have I2 : Inv X pins σ H1 { s1 with heap := h' } := I1.kept (t' := s1.toks) hk
    refine ⟨s1.heap.objs.size + 1, [s1.heap.objs.size + 1, s1.heap.objs.size], _, _, H1, rfl, I2, turn_enumT a (s1.heap.objs.size + 1) s1.heap.objs.size, ⟨⟨.none, he⟩, hit, Nat.succ_ne_self _⟩, fun b hb => ?_, q⟩
    have e' : b = s1.heap.objs.size + 1 ∨ b = s1.heap.objs.size := by simpa using hb
    have hle : s1.heap.objs.size ≤ b := by
      rcases e' with z | z
      · rw [z]; exact Nat.le_add_right _ _
      · rw [z]; exact Nat.le_refl _
    exact I1.fpOk hle (I1.hok.fresh hle)
theorem for_enumT {K : PySem.W.Frag} {a : Addr} {xs : List V} {g : TG} {tb : TS} {D : Ends} {σ : St} {H : Hp} (Pv : Nat → St → Hp → Prop) (h0 : Pv 0 σ H) (hl : ∀ i σ H, i ≤ xs.length → Pv i σ H → SqT K H a xs)
    (hs : ∀ i x T σ H, xs[i]? = some x → Pv i σ H → H T = none → g (.ref T) σ (upd H T (.tup [.int (i : Nat), x])) fun σ2 H2 => tb { D with nx := Pv (i + 1), ct := Pv (i + 1), bk := D.nx } σ2 H2) (hd : ∀ σ H, Pv xs.length σ H → D.nx σ H) :
    ∃ W : Nat → Nat → St → Hp → Prop, (∃ m, W 0 m σ H) ∧ ∀ i m σ H, W i m σ H →
      ((Itet K a).stop i H ∧ D.nx σ H) ∨ ((Itet K a).go i H ∧ ∃ N : St → Hp → Prop, (∀ σ' H', N σ' H' → ∃ m', m' < m ∧ W (i + 1) m' σ' H') ∧ ∀ x H', (Itet K a).yld i H x H' → g x σ H' fun σ2 H2 => tb { D with nx := N, ct := N, bk := D.nx } σ2 H2) := by
  refine ⟨fun i m σ H => m = xs.length - i ∧ i ≤ xs.length ∧ Pv i σ H, ⟨xs.length, by simp, Nat.zero_le _, h0⟩, ?_⟩
  rintro i m σ H ⟨rfl, hi, p⟩
  have q := hl i σ H hi p
  by_cases hlt : i < xs.length
  · refine .inr ⟨⟨xs, xs[i], q, by simp [hlt]⟩, Pv (i + 1), fun σ' H' p' => ⟨xs.length - (i + 1), by omega, rfl, hlt, p'⟩, fun v H' y => ?_⟩
    obtain ⟨T, x, e1, hT, e2, y⟩ := y
    subst e1 e2
    exact hs i x T σ _ (y xs q) p hT
  · have e : i = xs.length := by omega
    subst e
    exact .inl ⟨⟨xs, q, rfl⟩, hd σ H p⟩
/-- a comprehension over a text -/
theorem lc_str {x : Str} {g : TG} {tt : TT} {te : TE} {vs : List Nat} {σ : St} {H1 : Hp} {D : Addr} {Qd : Hp → Prop} (Pv : Nat → Hp → Prop) (h0 : Pv 0 (upd H1 D (.lst [])))
    (hs : ∀ i c H, x.cps.toList[i]? = some c → Pv i H → g (.str ⟨#[c]⟩) (wipe σ vs) H fun σ2 H2 => wipe σ2 vs = wipe σ vs ∧ tt σ2 H2 fun b H3 =>
      if b = true then te σ2 H3 fun y H4 => ∃ acc, H4 D = some (.lst acc) ∧ acc.length < sizeLine ∧ Pv (i + 1) (upd H4 D (.lst (acc ++ [y]))) else Pv (i + 1) H3) (hd : ∀ H, Pv x.cps.toList.length H → Qd H) :
    ∃ W : Nat → Nat → Hp → Prop, (∃ m, W 0 m (upd H1 D (.lst []))) ∧ ∀ i m H, W i m H →
      ((Its x).stop i H ∧ Qd H) ∨ ((Its x).go i H ∧ ∃ Nx : Hp → Prop, (∀ H', Nx H' → ∃ m', m' < m ∧ W (i + 1) m' H') ∧ ∀ y H', (Its x).yld i H y H' → g y (wipe σ vs) H' fun σ2 H2 => wipe σ2 vs = wipe σ vs ∧ tt σ2 H2 fun b H3 =>
        if b = true then te σ2 H3 fun y H4 => ∃ acc, H4 D = some (.lst acc) ∧ acc.length < sizeLine ∧ Nx (upd H4 D (.lst (acc ++ [y]))) else Nx H3) := by
  have hn : x.cps.toList.length = x.cps.size := by simp
  refine ⟨fun i m H => m = x.cps.size - i ∧ i ≤ x.cps.size ∧ Pv i H, ⟨x.cps.size, by simp, Nat.zero_le _, h0⟩, ?_⟩
  rintro i m H ⟨rfl, hi, p⟩
  by_cases hlt : i < x.cps.size
  · refine .inr ⟨hlt, Pv (i + 1), fun H' p' => ⟨x.cps.size - (i + 1), by omega, rfl, hlt, p'⟩, fun v H' y => ?_⟩
    obtain ⟨e, c, hc, ev⟩ := y
    subst e ev
    exact hs i c _ (by simpa using hc) p
  · have e : i = x.cps.size := by omega
    rw [← hn] at e
    subst e
    exact .inl ⟨by show x.cps.size ≤ x.cps.toList.length; omega, hd H p⟩
theorem Same.seqT {K : PySem.W.Frag} {H H' : Hp} {a : Addr} {xs : List V} (e : Same H H') (h : SqT K H a xs) : SqT K H' a xs := by
  rcases h with (h | ⟨o, h⟩) | h
  · exact .inl (.inl (e _ _ h))
  · exact .inl (.inr ⟨o, e _ _ h⟩)
  · exact .inr h
theorem Same.new {H : Hp} {l : Addr} {o : HO} (h : H l = none) : Same H (upd H l o) := fun b u e => by
  rw [upd_ne (ne_of_none e h)]
  exact e
/-- an object that H did not track is changed -/
theorem Same.put {H H' : Hp} {l : Addr} {o : HO} (s : Same H H') (h : H l = none) : Same H (upd H' l o) := fun b u e => by
  rw [upd_ne (ne_of_none e h)]
  exact s b u e
end L2

set_option linter.all false
namespace Rd
abbrev By := List Nat

def spl (m : Nat) : By → By → List By
  | w, [] => [w]
  | w, b :: l => if b = m then w :: spl m [] l else spl m (w ++ [b]) l
theorem split_spl : ∀ (l w : By), Kyg.split w l = spl 32 w.reverse l
  | [], w => rfl
  | b :: l, w => by
    unfold Kyg.split spl
    by_cases h : b = 32
    · rw [if_pos h, if_pos h, split_spl l []]; rfl
    · rw [if_neg h, if_neg h, split_spl l (b :: w), List.reverse_cons]
def plc : List By → By → Nat → Option Nat
  | [], _, _ => none
  | s :: l, w, k => if s = w then some k else plc l w (k + 1)
theorem placeIn_plc : ∀ (names : List String) (w : By) (k : Nat), Kyg.placeIn names w k = plc (names.map Kyg.text) w k
  | [], _, _ => rfl
  | s :: l, w, k => by
    unfold Kyg.placeIn
    rw [List.map_cons]
    unfold plc
    rw [placeIn_plc l w (k + 1)]
    by_cases h : Kyg.text s = w
    · rw [if_pos h, if_pos (by rw [h]; exact beq_self_eq_true w)]
    · rw [if_neg h, if_neg (by intro e; exact h (eq_of_beq e))]
def lettersT : List By := [[67], [68], [69], [70], [71], [65], [66]]
def altsT : List By := [[98, 98], [98], [], [35], [35, 35]]
def kindsT : List By := [[], [109], [100, 105, 109], [97, 117, 103], [115, 117, 115, 50], [115, 117, 115, 52], [53], [54], [109, 54], [55], [109, 97, 106, 55], [109, 55], [109, 55, 98, 53], [100, 105, 109, 55], [97, 100, 100, 57], [57], [109, 57], [55, 115, 117, 115, 52]]
theorem kindsT_eq : Kyg.names.map Kyg.text = kindsT := by decide
def rdNote (w : By) : Option (Nat × Int) :=
  match plc lettersT (w.take 1) 0, plc altsT (w.drop 1) 0 with
  | some k, some a => some (k, (a : Int) - 2)
  | _, _ => none
def isAcc (b : Nat) : Bool := b == 35 || b == 98
def noteEnd (w : By) : Nat := 1 + ((w.drop 1).takeWhile isAcc).length
def rdRoot (s : By) : Option (Nat × Int) := rdNote (s.take (noteEnd s))
def rdKind (s : By) : Option Nat := plc kindsT (s.drop (noteEnd s)) 0
def rdChord (w : By) : Option (List Int) :=
  match spl 47 [] w with
  | [s] => (match rdRoot s, rdKind s with
    | some r, some k => some [(r.1 : Int), r.2, (k : Int), 7, 0]
    | _, _ => none)
  | [s, q] => (match rdRoot s, rdKind s, rdNote q with
    | some r, some k, some b => if b = r then none else some [(r.1 : Int), r.2, (k : Int), (b.1 : Int), b.2]
    | _, _, _ => none)
  | _ => none

/-! letters -/
theorem letter_plc (b : Nat) : plc lettersT [b] 0 = Kyg.letterOf b := by
  unfold Kyg.letterOf lettersT
  simp only [plc, List.cons.injEq, and_true]
  by_cases h1 : b = 67
  · subst h1; rfl
  by_cases h2 : b = 68
  · subst h2; rfl
  by_cases h3 : b = 69
  · subst h3; rfl
  by_cases h4 : b = 70
  · subst h4; rfl
  by_cases h5 : b = 71
  · subst h5; rfl
  by_cases h6 : b = 65
  · subst h6; rfl
  by_cases h7 : b = 66
  · subst h7; rfl
  rw [if_neg (by omega), if_neg (by omega), if_neg (by omega), if_neg (by omega), if_neg (by omega), if_neg (by omega), if_neg (by omega), if_neg (by omega), if_neg (by omega)]
theorem letter_le {b k : Nat} (h : Kyg.letterOf b = some k) : k ≤ 6 := by
  unfold Kyg.letterOf at h
  by_cases h1 : 67 ≤ b ∧ b ≤ 71
  · rw [if_pos h1] at h; cases h; omega
  · rw [if_neg h1] at h
    by_cases h2 : b = 65 ∨ b = 66
    · rw [if_pos h2] at h; cases h; omega
    · rw [if_neg h2] at h; cases h
theorem rdNote_nil : rdNote [] = none := rfl
theorem rdNote_cons (b : Nat) (l : By) : rdNote (b :: l) = (match Kyg.letterOf b, plc altsT l 0 with
  | some k, some a => some (k, (a : Int) - 2)
  | _, _ => none) := by
  unfold rdNote
  rw [show (b :: l).take 1 = [b] from rfl, show (b :: l).drop 1 = l from rfl, letter_plc]


/-! what may stand behind a letter -/
def acc (l : By) : Int × By := match l with
  | 35 :: 35 :: r => (2, r)
  | 35 :: r => (1, r)
  | 98 :: 98 :: r => (-2, r)
  | 98 :: r => (-1, r)
  | r => (0, r)
theorem noteIn_nil : Kyg.noteIn [] = none := rfl
theorem noteIn_cons (b : Nat) (l : By) : Kyg.noteIn (b :: l) = (Kyg.letterOf b).map fun k => (⟨k, (acc l).1⟩, (acc l).2) := by
  show (match Kyg.letterOf b with
    | none => none
    | some k => _) = _
  cases Kyg.letterOf b with
  | none => rfl
  | some k =>
    show (match l with
      | 35 :: 35 :: r => _
      | 35 :: r => _
      | 98 :: 98 :: r => _
      | 98 :: r => _
      | r => _) = some _
    unfold acc
    split <;> rfl
theorem acc_cases (l : By) : (∃ r, l = 35 :: 35 :: r ∧ acc l = (2, r)) ∨ (∃ r, l = 35 :: r ∧ (∀ q, r ≠ 35 :: q) ∧ acc l = (1, r)) ∨
    (∃ r, l = 98 :: 98 :: r ∧ acc l = (-2, r)) ∨ (∃ r, l = 98 :: r ∧ (∀ q, r ≠ 98 :: q) ∧ acc l = (-1, r)) ∨ ((∀ q, l ≠ 35 :: q) ∧ (∀ q, l ≠ 98 :: q) ∧ acc l = (0, l)) := by
  unfold acc
  split
  · exact .inl ⟨_, rfl, rfl⟩
  · rename_i r h
    exact .inr (.inl ⟨_, rfl, fun q e => h q (by rw [e]), rfl⟩)
  · exact .inr (.inr (.inl ⟨_, rfl, rfl⟩))
  · rename_i r h
    exact .inr (.inr (.inr (.inl ⟨_, rfl, fun q e => h q (by rw [e]), rfl⟩)))
  · rename_i h1 h2 h3 h4
    exact .inr (.inr (.inr (.inr ⟨fun q e => h2 q e, fun q e => h4 q e, rfl⟩)))
/-! no kind's name begins with # or b -/
theorem kind_35 (q : By) (k : Nat) : plc kindsT (35 :: q) k = none := by
  simp [kindsT, plc]
theorem kind_98 (q : By) (k : Nat) : plc kindsT (98 :: q) k = none := by
  simp [kindsT, plc]
theorem tw35 (l : By) : (35 :: l).takeWhile isAcc = 35 :: l.takeWhile isAcc := rfl
theorem tw98 (l : By) : (98 :: l).takeWhile isAcc = 98 :: l.takeWhile isAcc := rfl
theorem dw35 (l : By) : (35 :: l).dropWhile isAcc = l.dropWhile isAcc := rfl
theorem dw98 (l : By) : (98 :: l).dropWhile isAcc = l.dropWhile isAcc := rfl
theorem run_acc : ∀ l : By, l.take (l.takeWhile isAcc).length = l.takeWhile isAcc
  | [] => rfl
  | b :: l => by
    rw [List.takeWhile_cons]
    split
    · rw [List.length_cons, List.take_succ_cons, run_acc l]
    · rfl
theorem rest_acc : ∀ l : By, l.drop (l.takeWhile isAcc).length = l.dropWhile isAcc
  | [] => rfl
  | b :: l => by
    rw [List.takeWhile_cons, List.dropWhile_cons]
    split
    · rw [List.length_cons, List.drop_succ_cons, rest_acc l]
    · rfl
theorem rdRoot_cons (b : Nat) (l : By) : rdRoot (b :: l) = rdNote (b :: l.takeWhile isAcc) := by
  unfold rdRoot noteEnd
  rw [show (b :: l).drop 1 = l from rfl, Nat.add_comm, List.take_succ_cons, run_acc]
theorem rdKind_cons (b : Nat) (l : By) : rdKind (b :: l) = plc kindsT (l.dropWhile isAcc) 0 := by
  unfold rdKind noteEnd
  rw [show (b :: l).drop 1 = l from rfl, Nat.add_comm, List.drop_succ_cons, rest_acc]
/-- the root and the kind, both or none -/
def rk (s : By) : Option ((Nat × Int) × Nat) := match rdRoot s, rdKind s with
  | some r, some k => some (r, k)
  | _, _ => none
theorem alt_long (a b c : Nat) (q : By) (k : Nat) : plc altsT (a :: b :: c :: q) k = none := by
  simp [altsT, plc]
theorem isAcc_iff (b : Nat) : isAcc b = true ↔ b = 35 ∨ b = 98 := by
  unfold isAcc
  simp
theorem first_acc {r : By} (h : ∀ q, r ≠ 35 :: q) (h' : ∀ q, r ≠ 98 :: q) : r.takeWhile isAcc = [] ∧ r.dropWhile isAcc = r := by
  cases r with
  | nil => exact ⟨rfl, rfl⟩
  | cons b r =>
    have n : isAcc b = false := by
      cases e : isAcc b with
      | false => rfl
      | true =>
        rcases (isAcc_iff b).mp e with z | z
        · exact absurd (by rw [z]) (h r)
        · exact absurd (by rw [z]) (h' r)
    rw [List.takeWhile_cons, List.dropWhile_cons, n]
    exact ⟨rfl, rfl⟩
/-- behind the note that the specification takes -/
theorem acc_run (l : By) : (plc altsT (l.takeWhile isAcc) 0 = some ((acc l).1 + 2).toNat ∧ (-2 ≤ (acc l).1 ∧ (acc l).1 ≤ 2) ∧ l.dropWhile isAcc = (acc l).2) ∨
    (plc altsT (l.takeWhile isAcc) 0 = none ∧ ∀ k, plc kindsT (acc l).2 k = none) := by
  have two : ∀ (a b c : Nat) (q : By), isAcc a = true → isAcc b = true → isAcc c = true → plc altsT ((a :: b :: c :: q).takeWhile isAcc) 0 = none := by
    intro a b c q h1 h2 h3
    rw [List.takeWhile_cons, if_pos h1, List.takeWhile_cons, if_pos h2, List.takeWhile_cons, if_pos h3]
    exact alt_long _ _ _ _ _
  rcases acc_cases l with ⟨r, rfl, e⟩ | ⟨r, rfl, h, e⟩ | ⟨r, rfl, e⟩ | ⟨r, rfl, h, e⟩ | ⟨h, h', e⟩
  · rw [e]
    by_cases z : ∃ q, r = 35 :: q
    · obtain ⟨q, rfl⟩ := z
      exact .inr ⟨two _ _ _ _ rfl rfl rfl, kind_35 q⟩
    by_cases z' : ∃ q, r = 98 :: q
    · obtain ⟨q, rfl⟩ := z'
      exact .inr ⟨two _ _ _ _ rfl rfl rfl, kind_98 q⟩
    obtain ⟨f1, f2⟩ := first_acc (fun q e => z ⟨q, e⟩) (fun q e => z' ⟨q, e⟩)
    refine .inl ⟨?_, (by simp), ?_⟩
    · simp only [tw35, tw98, f1]; rfl
    · simp only [dw35, dw98, f2]
  · rw [e]
    by_cases z' : ∃ q, r = 98 :: q
    · obtain ⟨q, rfl⟩ := z'
      refine .inr ⟨?_, kind_98 q⟩
      cases q with
      | nil => rfl
      | cons c q =>
        by_cases hc : isAcc c = true
        · exact two _ _ _ _ rfl rfl hc
        · rw [tw35, tw98, List.takeWhile_cons, if_neg hc]; rfl
    obtain ⟨f1, f2⟩ := first_acc h (fun q e => z' ⟨q, e⟩)
    refine .inl ⟨?_, (by simp), ?_⟩
    · simp only [tw35, tw98, f1]; rfl
    · simp only [dw35, dw98, f2]
  · rw [e]
    by_cases z : ∃ q, r = 35 :: q
    · obtain ⟨q, rfl⟩ := z
      exact .inr ⟨two _ _ _ _ rfl rfl rfl, kind_35 q⟩
    by_cases z' : ∃ q, r = 98 :: q
    · obtain ⟨q, rfl⟩ := z'
      exact .inr ⟨two _ _ _ _ rfl rfl rfl, kind_98 q⟩
    obtain ⟨f1, f2⟩ := first_acc (fun q e => z ⟨q, e⟩) (fun q e => z' ⟨q, e⟩)
    refine .inl ⟨?_, (by simp), ?_⟩
    · simp only [tw35, tw98, f1]; rfl
    · simp only [dw35, dw98, f2]
  · rw [e]
    by_cases z' : ∃ q, r = 35 :: q
    · obtain ⟨q, rfl⟩ := z'
      refine .inr ⟨?_, kind_35 q⟩
      cases q with
      | nil => rfl
      | cons c q =>
        by_cases hc : isAcc c = true
        · exact two _ _ _ _ rfl rfl hc
        · rw [tw98, tw35, List.takeWhile_cons, if_neg hc]; rfl
    obtain ⟨f1, f2⟩ := first_acc (fun q e => z' ⟨q, e⟩) h
    refine .inl ⟨?_, (by simp), ?_⟩
    · simp only [tw35, tw98, f1]; rfl
    · simp only [dw35, dw98, f2]
  · rw [e]
    obtain ⟨f1, f2⟩ := first_acc h h'
    exact .inl ⟨by rw [f1]; rfl, (by simp), f2⟩
/-- root and kind of a part without / -/
theorem rk_noteIn (s : By) : rk s = (Kyg.noteIn s).bind fun p => (plc kindsT p.2 0).map fun k => ((p.1.letter, p.1.alt), k) := by
  cases s with
  | nil => rfl
  | cons b l =>
    unfold rk
    rw [rdRoot_cons, rdKind_cons, rdNote_cons, noteIn_cons]
    cases Kyg.letterOf b with
    | none => rfl
    | some k =>
      rcases acc_run l with ⟨h1, h2, h3⟩ | ⟨h1, h2⟩
      · rw [h1, h3]
        have e : ((((acc l).1 + 2).toNat : Nat) : Int) - 2 = (acc l).1 := by omega
        show (match some (k, ((((acc l).1 + 2).toNat : Nat) : Int) - 2), plc kindsT (acc l).2 0 with
          | some r, some k => some (r, k)
          | _, _ => none) = _
        rw [e]
        show _ = (plc kindsT (acc l).2 0).map _
        cases plc kindsT (acc l).2 0 <;> rfl
      · rw [h1]
        show none = (plc kindsT (acc l).2 0).map _
        rw [h2 0]
        rfl
/-- a note alone -/
theorem rdNote_noteIn (q : By) : rdNote q = (match Kyg.noteIn q with
    | some (n, []) => some (n.letter, n.alt)
    | _ => none) := by
  cases q with
  | nil => rfl
  | cons b l =>
    rw [rdNote_cons, noteIn_cons]
    cases Kyg.letterOf b with
    | none => rfl
    | some k =>
      show (match some k, plc altsT l 0 with
        | some k, some a => some (k, (a : Int) - 2)
        | _, _ => none) = (match some ((⟨k, (acc l).1⟩ : Kyg.Note), (acc l).2) with
        | some (n, []) => some (n.letter, n.alt)
        | _ => none)
      rcases acc_cases l with ⟨r, rfl, e⟩ | ⟨r, rfl, h, e⟩ | ⟨r, rfl, e⟩ | ⟨r, rfl, h, e⟩ | ⟨h, h', e⟩
      · rw [e]
        cases r with
        | nil => rfl
        | cons c r => rw [alt_long]
      · rw [e]
        cases r with
        | nil => rfl
        | cons c r =>
          cases r with
          | nil =>
            have hc : ¬ c = 35 := fun z => h [] (by rw [z])
            have z : plc altsT [35, c] 0 = none := by
              simp [altsT, plc]
              intro z; exact absurd z.symm hc
            rw [z]
          | cons d r => rw [alt_long]
      · rw [e]
        cases r with
        | nil => rfl
        | cons c r => rw [alt_long]
      · rw [e]
        cases r with
        | nil => rfl
        | cons c r =>
          cases r with
          | nil =>
            have hc : ¬ c = 98 := fun z => h [] (by rw [z])
            have z : plc altsT [98, c] 0 = none := by
              simp [altsT, plc]
              intro z; exact absurd z.symm hc
            rw [z]
          | cons d r => rw [alt_long]
      · rw [e]
        cases l with
        | nil => rfl
        | cons c r =>
          have hc : ¬ c = 35 := fun z => h r (by rw [z])
          have hc' : ¬ c = 98 := fun z => h' r (by rw [z])
          have z : plc altsT (c :: r) 0 = none := by
            have n1 : ¬ 98 = c := fun z => hc' z.symm
            have n2 : ¬ 35 = c := fun z => hc z.symm
            simp [altsT, plc, n1, n2]
          rw [z]

/-! cut at a mark -/
theorem spl_whole (m : Nat) : ∀ (s w : By), (∀ b, b ∈ s → b ≠ m) → spl m w s = [w ++ s]
  | [], w, _ => by unfold spl; rw [List.append_nil]
  | b :: l, w, h => by
    unfold spl
    rw [if_neg (h b (List.mem_cons_self ..)), spl_whole m l (w ++ [b]) fun c hc => h c (List.mem_cons_of_mem _ hc), List.append_assoc]
    rfl
theorem spl_mark (m : Nat) (q : By) : ∀ (s w : By), (∀ b, b ∈ s → b ≠ m) → spl m w (s ++ m :: q) = (w ++ s) :: spl m [] q
  | [], w, _ => by
    show spl m w (m :: q) = _
    unfold spl
    rw [if_pos rfl, List.append_nil]
    cases q <;> rfl
  | b :: l, w, h => by
    show spl m w (b :: (l ++ m :: q)) = _
    rw [show spl m w (b :: (l ++ m :: q)) = if b = m then w :: spl m [] (l ++ m :: q) else spl m (w ++ [b]) (l ++ m :: q) from rfl]
    rw [if_neg (h b (List.mem_cons_self ..)), spl_mark m q l (w ++ [b]) fun c hc => h c (List.mem_cons_of_mem _ hc), List.append_assoc]
    rfl
theorem spl_some (m : Nat) : ∀ (l w : By), ∃ a r, spl m w l = a :: r
  | [], w => ⟨w, [], rfl⟩
  | b :: l, w => by
    rw [show spl m w (b :: l) = if b = m then w :: spl m [] l else spl m (w ++ [b]) l from rfl]
    by_cases h : b = m
    · rw [if_pos h]; exact ⟨_, _, rfl⟩
    · rw [if_neg h]; exact spl_some m l _
theorem cut_at (m : Nat) : ∀ w : By, (∀ b, b ∈ w → b ≠ m) ∨ ∃ s q, w = s ++ m :: q ∧ ∀ b, b ∈ s → b ≠ m
  | [] => .inl fun _ h => by cases h
  | b :: l => by
    by_cases h : b = m
    · subst h; exact .inr ⟨[], l, rfl, fun _ h => by cases h⟩
    · rcases cut_at m l with z | ⟨s, q, rfl, z⟩
      · refine .inl fun c hc => ?_
        rcases List.mem_cons.mp hc with rfl | hc
        · exact h
        · exact z c hc
      · refine .inr ⟨b :: s, q, rfl, fun c hc => ?_⟩
        rcases List.mem_cons.mp hc with rfl | hc
        · exact h
        · exact z c hc
theorem spl_len (m : Nat) (w : By) : (spl m [] w).length ≤ w.length + 1 := by
  have h : ∀ (l w : By), (spl m w l).length ≤ l.length + 1 := by
    intro l
    induction l with
    | nil => intro w; exact Nat.le_refl _
    | cons b l ih =>
      intro w
      rw [show spl m w (b :: l) = if b = m then w :: spl m [] l else spl m (w ++ [b]) l from rfl]
      by_cases h : b = m
      · rw [if_pos h, List.length_cons, List.length_cons]; have := ih []; omega
      · rw [if_neg h, List.length_cons]; have := ih (w ++ [b]); omega
  exact h w []
/-! a note, and / behind it -/
theorem acc_two35 (r : By) : acc (35 :: 35 :: r) = (2, r) := rfl
theorem acc_two98 (r : By) : acc (98 :: 98 :: r) = (-2, r) := rfl
theorem acc_one35 {r : By} (h : ∀ q, r ≠ 35 :: q) : acc (35 :: r) = (1, r) := by
  rcases acc_cases (35 :: r) with ⟨r', e, _⟩ | ⟨r', e, _, z⟩ | ⟨r', e, _⟩ | ⟨r', e, _⟩ | ⟨z, _, _⟩
  · exact absurd (List.cons.inj e).2 (h r')
  · rw [z, (List.cons.inj e).2]
  · exact absurd (List.cons.inj e).1 (by decide)
  · exact absurd (List.cons.inj e).1 (by decide)
  · exact absurd rfl (z r)
theorem acc_one98 {r : By} (h : ∀ q, r ≠ 98 :: q) : acc (98 :: r) = (-1, r) := by
  rcases acc_cases (98 :: r) with ⟨r', e, _⟩ | ⟨r', e, _, z⟩ | ⟨r', e, _⟩ | ⟨r', e, _, z⟩ | ⟨_, z, _⟩
  · exact absurd (List.cons.inj e).1 (by decide)
  · exact absurd (List.cons.inj e).1 (by decide)
  · exact absurd (List.cons.inj e).2 (h r')
  · rw [z, (List.cons.inj e).2]
  · exact absurd rfl (z r)
theorem acc_no {l : By} (h : ∀ q, l ≠ 35 :: q) (h' : ∀ q, l ≠ 98 :: q) : acc l = (0, l) := by
  rcases acc_cases l with ⟨r', e, _⟩ | ⟨r', e, _, z⟩ | ⟨r', e, _⟩ | ⟨r', e, _, z⟩ | ⟨_, _, z⟩
  · exact absurd e (h _)
  · exact absurd e (h _)
  · exact absurd e (h' _)
  · exact absurd e (h' _)
  · exact z
theorem ne_app {c : Nat} {r q : By} (hc : c ≠ 47) (h : ∀ q, r ≠ c :: q) (q' : By) : r ++ 47 :: q ≠ c :: q' := by
  cases r with
  | nil => intro e; exact hc (List.cons.inj e).1.symm
  | cons a r => intro e; exact h r (by rw [(List.cons.inj e).1])
theorem acc_app (l q : By) : acc (l ++ 47 :: q) = ((acc l).1, (acc l).2 ++ 47 :: q) := by
  rcases acc_cases l with ⟨r, rfl, e⟩ | ⟨r, rfl, h, e⟩ | ⟨r, rfl, e⟩ | ⟨r, rfl, h, e⟩ | ⟨h, h', e⟩
  · rw [e]; exact acc_two35 _
  · rw [e]; exact acc_one35 (ne_app (by decide) h)
  · rw [e]; exact acc_two98 _
  · rw [e]; exact acc_one98 (ne_app (by decide) h)
  · rw [e]; exact acc_no (ne_app (by decide) h) (ne_app (by decide) h')
theorem acc_mem {l : By} {b : Nat} (hb : b ∈ (acc l).2) : b ∈ l := by
  rcases acc_cases l with ⟨r, rfl, e⟩ | ⟨r, rfl, h, e⟩ | ⟨r, rfl, e⟩ | ⟨r, rfl, h, e⟩ | ⟨h, h', e⟩
  · rw [e] at hb; exact List.mem_cons_of_mem _ (List.mem_cons_of_mem _ hb)
  · rw [e] at hb; exact List.mem_cons_of_mem _ hb
  · rw [e] at hb; exact List.mem_cons_of_mem _ (List.mem_cons_of_mem _ hb)
  · rw [e] at hb; exact List.mem_cons_of_mem _ hb
  · rw [e] at hb; exact hb
theorem noteIn_app (s q : By) : Kyg.noteIn (s ++ 47 :: q) = (Kyg.noteIn s).map fun p => (p.1, p.2 ++ 47 :: q) := by
  cases s with
  | nil => rfl
  | cons b l =>
    show Kyg.noteIn (b :: (l ++ 47 :: q)) = _
    rw [noteIn_cons, noteIn_cons, acc_app]
    cases Kyg.letterOf b <;> rfl
theorem noteIn_mem {s r : By} {n : Kyg.Note} (h : Kyg.noteIn s = some (n, r)) {b : Nat} (hb : b ∈ r) : b ∈ s := by
  cases s with
  | nil => cases h
  | cons c l =>
    rw [noteIn_cons] at h
    cases e : Kyg.letterOf c with
    | none => rw [e] at h; cases h
    | some k =>
      rw [e] at h
      have h' := Option.some.inj h
      rw [← (Prod.mk.inj h').2] at hb
      exact List.mem_cons_of_mem _ (acc_mem hb)
theorem noteIn_letter {s r : By} {n : Kyg.Note} (h : Kyg.noteIn s = some (n, r)) : n.letter ≤ 6 := by
  cases s with
  | nil => cases h
  | cons c l =>
    rw [noteIn_cons] at h
    cases e : Kyg.letterOf c with
    | none => rw [e] at h; cases h
    | some k =>
      rw [e] at h
      have h' := Option.some.inj h
      rw [← (Prod.mk.inj h').1]
      exact letter_le e
theorem tw_all {r : By} (h : ∀ b, b ∈ r → b ≠ 47) : r.takeWhile (fun b => b != 47) = r ∧ r.dropWhile (fun b => b != 47) = [] := by
  induction r with
  | nil => exact ⟨rfl, rfl⟩
  | cons b r ih =>
    obtain ⟨i1, i2⟩ := ih fun c hc => h c (List.mem_cons_of_mem _ hc)
    have hb : (b != 47) = true := by simpa using h b (List.mem_cons_self ..)
    rw [List.takeWhile_cons, List.dropWhile_cons, if_pos hb, if_pos hb, i1, i2]
    exact ⟨rfl, rfl⟩
theorem tw_mark {r : By} (q : By) (h : ∀ b, b ∈ r → b ≠ 47) : (r ++ 47 :: q).takeWhile (fun b => b != 47) = r ∧ (r ++ 47 :: q).dropWhile (fun b => b != 47) = 47 :: q := by
  induction r with
  | nil => exact ⟨rfl, rfl⟩
  | cons b r ih =>
    obtain ⟨i1, i2⟩ := ih fun c hc => h c (List.mem_cons_of_mem _ hc)
    have hb : (b != 47) = true := by simpa using h b (List.mem_cons_self ..)
    rw [List.cons_append, List.takeWhile_cons, List.dropWhile_cons, if_pos hb, if_pos hb, i1, i2]
    exact ⟨rfl, rfl⟩
/-! a chord -/
theorem rdChord_one {w : By} (h : ∀ b, b ∈ w → b ≠ 47) : rdChord w = (rk w).map fun p => [(p.1.1 : Int), p.1.2, (p.2 : Int), 7, 0] := by
  unfold rdChord rk
  rw [spl_whole 47 w [] h]
  show (match rdRoot w, rdKind w with
    | some r, some k => _
    | _, _ => none) = _
  cases rdRoot w <;> cases rdKind w <;> rfl
theorem rdChord_two {s q : By} (h : ∀ b, b ∈ s → b ≠ 47) (h' : ∀ b, b ∈ q → b ≠ 47) : rdChord (s ++ 47 :: q) = (rk s).bind fun p => (rdNote q).bind fun b => if b = p.1 then none else some [(p.1.1 : Int), p.1.2, (p.2 : Int), (b.1 : Int), b.2] := by
  unfold rdChord rk
  rw [spl_mark 47 q s [] h, spl_whole 47 q [] h']
  show (match rdRoot s, rdKind s, rdNote q with
    | some r, some k, some b => _
    | _, _, _ => none) = _
  cases rdRoot s <;> cases rdKind s <;> cases rdNote q <;> rfl
theorem rdChord_more {s s' q : By} (h : ∀ b, b ∈ s → b ≠ 47) (h' : ∀ b, b ∈ s' → b ≠ 47) : rdChord (s ++ 47 :: (s' ++ 47 :: q)) = none := by
  unfold rdChord
  rw [spl_mark 47 _ s [] h, spl_mark 47 _ s' [] h']
  obtain ⟨a, r, e⟩ := spl_some 47 q []
  rw [e]
theorem chordIn_one {w : By} (h : ∀ b, b ∈ w → b ≠ 47) : Kyg.chordIn w = (Kyg.noteIn w).bind fun p => (plc kindsT p.2 0).map fun k => ⟨p.1, k, none⟩ := by
  unfold Kyg.chordIn
  cases e : Kyg.noteIn w with
  | none => rfl
  | some p =>
    obtain ⟨n, r⟩ := p
    obtain ⟨t1, t2⟩ := tw_all (r := r) fun b hb => h b (noteIn_mem e hb)
    simp only [t1, t2, placeIn_plc, kindsT_eq, Option.bind_some]
    cases plc kindsT r 0 <;> rfl
theorem chordIn_mark {s : By} (q : By) (h : ∀ b, b ∈ s → b ≠ 47) : Kyg.chordIn (s ++ 47 :: q) = (Kyg.noteIn s).bind fun p => (plc kindsT p.2 0).bind fun k => (match Kyg.noteIn q with
    | some (b, []) => if Kyg.sameNote b p.1 then none else some ⟨p.1, k, some b⟩
    | _ => none) := by
  unfold Kyg.chordIn
  rw [noteIn_app]
  cases e : Kyg.noteIn s with
  | none => rfl
  | some p =>
    obtain ⟨n, r⟩ := p
    obtain ⟨t1, t2⟩ := tw_mark (r := r) q fun b hb => h b (noteIn_mem e hb)
    simp only [Option.map_some, t1, t2, placeIn_plc, kindsT_eq, Option.bind_some]
    cases plc kindsT r 0 <;> rfl
theorem same_iff (b n : Kyg.Note) : (Kyg.sameNote b n = true) ↔ ((b.letter, b.alt) = (n.letter, n.alt)) := by
  unfold Kyg.sameNote
  simp
theorem rdChord_eq (w : By) : rdChord w = (Kyg.chordIn w).map Kyg.numbers := by
  rcases cut_at 47 w with h | ⟨s, q, rfl, h⟩
  · rw [rdChord_one h, chordIn_one h, rk_noteIn]
    cases Kyg.noteIn w with
    | none => rfl
    | some p =>
      show ((plc kindsT p.2 0).map _).map _ = ((plc kindsT p.2 0).map _).map _
      cases plc kindsT p.2 0 <;> rfl
  · rw [chordIn_mark q h]
    rcases cut_at 47 q with h' | ⟨s', q', rfl, h'⟩
    · rw [rdChord_two h h', rk_noteIn, rdNote_noteIn]
      cases Kyg.noteIn s with
      | none => rfl
      | some p =>
        show ((plc kindsT p.2 0).map _).bind _ = ((plc kindsT p.2 0).bind _).map _
        cases plc kindsT p.2 0 with
        | none => rfl
        | some k =>
          show (Option.bind _ _) = Option.map _ (match Kyg.noteIn q with
            | some (b, []) => _
            | _ => none)
          cases Kyg.noteIn q with
          | none => rfl
          | some pq =>
            obtain ⟨b, r⟩ := pq
            cases r with
            | cons c r => rfl
            | nil =>
              show (if (b.letter, b.alt) = (p.1.letter, p.1.alt) then none else _) = Option.map _ (if Kyg.sameNote b p.1 = true then none else _)
              by_cases z : Kyg.sameNote b p.1 = true
              · rw [if_pos z, if_pos ((same_iff b p.1).mp z)]; rfl
              · rw [if_neg z, if_neg fun e => z ((same_iff b p.1).mpr e)]; rfl
    · rw [rdChord_more h h', noteIn_app]
      cases Kyg.noteIn s with
      | none => rfl
      | some p =>
        show none = ((plc kindsT p.2 0).bind _).map _
        cases plc kindsT p.2 0 with
        | none => rfl
        | some k =>
          cases Kyg.noteIn s' with
          | none => rfl
          | some pq =>
            obtain ⟨b, r⟩ := pq
            cases r <;> rfl
/-! a song -/
def rdAll : List By → Option (List (List Int))
  | [] => some []
  | w :: l => match rdChord w, rdAll l with
    | some c, some r => some (c :: r)
    | _, _ => none
theorem rdAll_eq : ∀ l : List By, rdAll l = (Kyg.allOf l).map (List.map Kyg.numbers)
  | [] => rfl
  | w :: l => by
    unfold rdAll Kyg.allOf
    rw [rdChord_eq, rdAll_eq l]
    cases Kyg.chordIn w <;> cases Kyg.allOf l <;> rfl
theorem rdAll_snoc : ∀ (l : List By) (x : By), rdAll (l ++ [x]) = (rdAll l).bind fun r => (rdChord x).map fun c => r ++ [c]
  | [], x => by
    show (match rdChord x, some ([] : List (List Int)) with
      | some c, some r => some (c :: r)
      | _, _ => none) = _
    cases rdChord x <;> rfl
  | w :: l, x => by
    show (match rdChord w, rdAll (l ++ [x]) with
      | some c, some r => some (c :: r)
      | _, _ => none) = Option.bind (match rdChord w, rdAll l with
      | some c, some r => some (c :: r)
      | _, _ => none) _
    rw [rdAll_snoc l x]
    cases rdChord w <;> cases rdAll l <;> cases rdChord x <;> rfl
theorem rdAll_none : ∀ {l : List By} {x : By}, x ∈ l → rdChord x = none → rdAll l = none
  | w :: l, x, hx, h => by
    unfold rdAll
    rcases List.mem_cons.mp hx with rfl | hx
    · rw [h]
    · rw [rdAll_none hx h]
      cases rdChord w <;> rfl
def rdSong (t : By) : Option (List (List Int)) := if t = [] then some [] else rdAll (spl 32 [] t)
theorem rdSong_eq (t : By) : rdSong t = (Kyg.read t).map (List.map Kyg.numbers) := by
  unfold rdSong Kyg.read
  cases t with
  | nil => rfl
  | cons b t =>
    rw [if_neg (by intro h; cases h), split_spl, rdAll_eq]
    rfl
theorem flat_map {α β : Type} (f : α → List β) (l : List α) : (l.map f).flatten = l.flatMap f := rfl
/-- what read is to answer -/
def rdAns (t : By) : List Int := if 400 < t.length then [-22] else match rdSong t with
  | none => [-71]
  | some cs => (cs.length : Int) :: cs.flatten
theorem read_eq (ns : List Int) : PyKyg.read ns = rdAns (KygNeutral.natsOf ns) := by
  show (let a := Kyg.answer (.read (KygNeutral.natsOf ns)); a.value :: a.out) = _
  generalize KygNeutral.natsOf ns = t
  show (Kyg.answer (.read t)).value :: (Kyg.answer (.read t)).out = _
  have e : Kyg.answer (.read t) = if 400 < t.length then Kyg.say (-22) else match Kyg.read t with
    | none => Kyg.say (-71)
    | some l => ⟨(l.length : Nat), l.flatMap Kyg.numbers⟩ := rfl
  rw [e]
  unfold rdAns
  rw [rdSong_eq]
  by_cases h : 400 < t.length
  · rw [if_pos h, if_pos h]; rfl
  · rw [if_neg h, if_neg h]
    cases Kyg.read t with
    | none => rfl
    | some l =>
      show ((l.length : Nat) : Int) :: l.flatMap Kyg.numbers = (((l.map Kyg.numbers).length : Nat) : Int) :: (l.map Kyg.numbers).flatten
      rw [List.length_map, flat_map]
end Rd

set_option Elab.async false
set_option linter.all false
set_option maxRecDepth 100000
set_option maxHeartbeats 2000000
/-! the data and the promises of the program's defs, whatever the row -/
namespace Cg
open PySem PySem.Spec PyProof.Rows L2 Rd
/-- bytes as values -/
def iv (w : By) : List V := w.map fun n => V.int ((n : Nat) : Int)
theorem iv_len (w : By) : (iv w).length = w.length := List.length_map ..
theorem iv_get {w : By} {i : Nat} {x : V} (h : (iv w)[i]? = some x) : ∃ b, w[i]? = some b ∧ x = .int ((b : Nat) : Int) := by
  unfold iv at h
  rw [List.getElem?_map] at h
  cases e : w[i]? with
  | none => rw [e] at h; cases h
  | some b => rw [e] at h; exact ⟨b, rfl, (Option.some.inj h).symm⟩
theorem iv_at {w : By} {i b : Nat} (h : w[i]? = some b) : (iv w)[i]? = some (.int ((b : Nat) : Int)) := by
  unfold iv
  rw [List.getElem?_map, h]
  rfl
theorem iv_snoc (w : By) (b : Nat) : iv (w ++ [b]) = iv w ++ [.int ((b : Nat) : Int)] := by
  unfold iv
  rw [List.map_append]
  rfl
theorem take_snoc {α : Type} : ∀ {l : List α} {i : Nat} {x : α}, l[i]? = some x → l.take (i + 1) = l.take i ++ [x]
  | [], i, x, h => by simp at h
  | a :: l, 0, x, h => by
    have e : a = x := Option.some.inj h
    subst e
    rfl
  | a :: l, i + 1, x, h => by
    have ih := take_snoc (l := l) (i := i) (x := x) h
    show a :: l.take (i + 1) = a :: l.take i ++ [x]
    rw [ih]
    rfl
theorem drop_at {α : Type} : ∀ {l : List α} {i : Nat} {x : α}, l[i]? = some x → l.drop i = x :: l.drop (i + 1)
  | [], i, x, h => by simp at h
  | a :: l, 0, x, h => by
    have e : a = x := Option.some.inj h
    subst e
    rfl
  | a :: l, i + 1, x, h => drop_at (l := l) (i := i) (x := x) h
theorem cut_take {w : By} {e : Int} {n : Nat} (h : e = (n : Int)) : cutV (iv w) none (some e) = iv (w.take n) := by
  subst h
  unfold cutV
  rw [HT.sIx_none, HT.sIx_nat, Nat.sub_zero, List.drop_zero, iv_len]
  unfold iv
  rw [← List.map_take]
  congr 1
  by_cases z : n ≤ w.length
  · rw [Nat.min_eq_left z]
  · rw [Nat.min_eq_right (by omega), List.take_of_length_le (Nat.le_refl _), List.take_of_length_le (by omega)]
theorem cut_drop {w : By} {e : Int} {n : Nat} (h : e = (n : Int)) : cutV (iv w) (some e) none = iv (w.drop n) := by
  subst h
  unfold cutV
  rw [HT.sIx_none, HT.sIx_nat, iv_len]
  unfold iv
  rw [← List.map_drop, ← List.map_take]
  congr 1
  by_cases z : n ≤ w.length
  · rw [Nat.min_eq_left z, List.take_of_length_le (by rw [List.length_drop]; omega)]
  · rw [Nat.min_eq_right (by omega), List.drop_of_length_le (Nat.le_refl _), List.drop_of_length_le (by omega), List.take_nil]
/-! equality of data -/
def pdI (w : By) : PyData := .list (w.map fun n => PyData.int ((n : Nat) : Int))
theorem dpAll_iv {K : PySem.W.Frag} {H : Hp} : ∀ w : By, DpAll K H (iv w) (w.map fun n => PyData.int ((n : Nat) : Int))
  | [] => .nil
  | b :: w => .cons (.int _) (dpAll_iv w)
theorem dp_iv {K : PySem.W.Frag} {H : Hp} {a : Addr} {w : By} (h : SqL K H a (iv w)) : Dp K H (.ref a) (pdI w) := .lst h (dpAll_iv w)
theorem lay_iv : ∀ w : By, PyData.canLayAll0 (w.map fun n => PyData.int ((n : Nat) : Int)) = true ∧ PyData.depthAll (w.map fun n => PyData.int ((n : Nat) : Int)) = 0
  | [] => by simp [PyData.canLayAll0, PyData.depthAll]
  | b :: w => by
    obtain ⟨h1, h2⟩ := lay_iv w
    simp [PyData.canLayAll0, PyData.depthAll, PyData.canLay0, PyData.depth, h1, h2]
theorem shaped_iv (w : By) : SeqAt.shaped (pdI w) = true := by
  obtain ⟨h1, h2⟩ := lay_iv w
  simp [SeqAt.shaped, pdI, PyData.canLay0, PyData.depth, h1, h2]
theorem eqvAll_iv : ∀ a b : By, PyData.eqvAll (a.map fun n => PyData.int ((n : Nat) : Int)) (b.map fun n => PyData.int ((n : Nat) : Int)) = decide (a = b)
  | [], [] => by simp [PyData.eqvAll]
  | [], b :: w => by simp [PyData.eqvAll]
  | a :: v, [] => by simp [PyData.eqvAll]
  | a :: v, b :: w => by
    have ih := eqvAll_iv v w
    simp only [List.map_cons, PyData.eqvAll, PyData.eqv, ih]
    rw [Bool.eq_iff_iff]
    simp
    intro _
    omega
theorem eqv_iv (a b : By) : PyData.eqv (pdI a) (pdI b) = decide (a = b) := by
  have h := eqvAll_iv a b
  simp only [pdI, PyData.eqv]
  exact h
def pdP (p : Nat × Int) : PyData := .tuple [.int p.1, .int p.2]
theorem dp_pair {K : PySem.W.Frag} {H : Hp} {a : Addr} {p : Nat × Int} (h : SqT K H a [.int p.1, .int p.2]) : Dp K H (.ref a) (pdP p) := .tup h (.cons (.int _) (.cons (.int _) .nil))
theorem shaped_pair (p : Nat × Int) : SeqAt.shaped (pdP p) = true := by
  simp [SeqAt.shaped, pdP, PyData.canLay0, PyData.canLayAll0, PyData.depth, PyData.depthAll]
theorem eqv_pair (p q : Nat × Int) : PyData.eqv (pdP p) (pdP q) = decide (p = q) := by
  obtain ⟨a, b⟩ := p
  obtain ⟨c, d⟩ := q
  simp only [pdP, PyData.eqv, PyData.eqvAll, Bool.and_true]
  rw [Bool.eq_iff_iff]
  simp
  omega
/-! texts -/
def txts (ls : List By) : List V := ls.map fun w => V.str ⟨w.toArray⟩
theorem txts_len (ls : List By) : (txts ls).length = ls.length := List.length_map ..
theorem txts_get {ls : List By} {i : Nat} {x : V} (h : (txts ls)[i]? = some x) : ∃ w, ls[i]? = some w ∧ x = .str ⟨w.toArray⟩ := by
  unfold txts at h
  rw [List.getElem?_map] at h
  cases e : ls[i]? with
  | none => rw [e] at h; cases h
  | some b => rw [e] at h; exact ⟨b, rfl, (Option.some.inj h).symm⟩
def optI : Option Nat → V
  | none => .non
  | some k => .int ((k : Nat) : Int)
/-- v stands for the note o -/
def NoteV (K : PySem.W.Frag) (H : Hp) (v : V) (o : Option (Nat × Int)) : Prop := match o with
  | none => v = .non
  | some p => ∃ b, v = .ref b ∧ SqT K H b [.int ((p.1 : Nat) : Int), .int p.2]
theorem NoteV.same {K : PySem.W.Frag} {H H' : Hp} {v : V} {o : Option (Nat × Int)} (h : NoteV K H v o) (s : Same H H') : NoteV K H' v o := by
  cases o with
  | none => exact h
  | some p => obtain ⟨b, e, q⟩ := h; exact ⟨b, e, s.seqT q⟩
/-- the lists at ps hold the rows -/
inductive RowsAt (H : Hp) : List Addr → List (List V) → Prop
  | nil : RowsAt H [] []
  | cons {p : Addr} {w : List V} {ps : List Addr} {ws : List (List V)} : H p = some (.lst w) → RowsAt H ps ws → RowsAt H (p :: ps) (w :: ws)
theorem RowsAt.mono {H H' : Hp} {ps : List Addr} {ws : List (List V)} (r : RowsAt H ps ws) (h : ∀ x, x ∈ ps → ∀ o, H x = some o → H' x = some o) : RowsAt H' ps ws := by
  induction r with
  | nil => exact .nil
  | cons e t ih => exact .cons (h _ (List.mem_cons_self ..) _ e) (ih fun x hx => h x (List.mem_cons_of_mem _ hx))
theorem RowsAt.same {H H' : Hp} {ps : List Addr} {ws : List (List V)} (r : RowsAt H ps ws) (s : Same H H') : RowsAt H' ps ws := r.mono fun x _ o e => s x o e
theorem RowsAt.snoc {H : Hp} {ps : List Addr} {ws : List (List V)} {p : Addr} {w : List V} (r : RowsAt H ps ws) (e : H p = some (.lst w)) : RowsAt H (ps ++ [p]) (ws ++ [w]) := by
  induction r with
  | nil => exact .cons e .nil
  | cons e' t ih => exact .cons e' ih
theorem RowsAt.length {H : Hp} {ps : List Addr} {ws : List (List V)} (r : RowsAt H ps ws) : ps.length = ws.length := by
  induction r with
  | nil => rfl
  | cons e' t ih => rw [List.length_cons, List.length_cons, ih]
theorem RowsAt.get {H : Hp} {ps : List Addr} {ws : List (List V)} (r : RowsAt H ps ws) : ∀ {i : Nat} {p : Addr}, ps[i]? = some p → ∃ w, ws[i]? = some w ∧ H p = some (.lst w) := by
  induction r with
  | nil => intro i p h; simp at h
  | cons e t ih =>
    intro i p h
    cases i with
    | zero =>
      have z := Option.some.inj h
      subst z
      exact ⟨_, rfl, e⟩
    | succ i => exact ih (i := i) h
theorem refs_get {ps : List Addr} {i : Nat} {y : V} (h : (ps.map V.ref)[i]? = some y) : ∃ p, ps[i]? = some p ∧ y = .ref p := by
  rw [List.getElem?_map] at h
  cases e : ps[i]? with
  | none => rw [e] at h; cases h
  | some b => rw [e] at h; exact ⟨b, rfl, (Option.some.inj h).symm⟩
theorem refs_at {ps : List Addr} {i : Nat} {p : Addr} (h : ps[i]? = some p) : (ps.map V.ref)[i]? = some (.ref p) := by
  rw [List.getElem?_map, h]
  rfl
theorem refs_snoc (ps : List Addr) (p : Addr) : ps.map V.ref ++ [V.ref p] = (ps ++ [p]).map V.ref := by
  rw [List.map_append]
  rfl
/-! tests -/
theorem ifN {v : V} {A B : Prop} (h1 : v = .non → A) (h2 : v ≠ .non → B) : if decide (v = .non) = true then A else B := by
  by_cases h : v = .non
  · rw [decide_eq_true h]; exact iteT (h1 h)
  · rw [decide_eq_false h]; exact iteF (h2 h)
theorem iteD {c A B : Prop} [Decidable c] (h1 : c → A) (h2 : ¬ c → B) : if decide c = true then A else B := by
  by_cases h : c
  · rw [decide_eq_true h]; exact iteT (h1 h)
  · rw [decide_eq_false h]; exact iteF (h2 h)
theorem tYes_if {σ : L2.St} {H : Hp} {A B : Hp → Prop} (h : A H) : tYes σ H (fun b H3 => if b = true then A H3 else B H3) := by
  show if true = true then A H else B H
  exact iteT h
/-! a module's names -/
section
variable {X : Cx}
theorem pe_gi {x : Str} {i : Int} {pos : Pos} (hg : Gl X x) (hm : ∃ t, X.mg x = some (.int i t)) (hd : (x == ("__debug__" : Str)) = false := by decide) : PE X (.Name x pos) (tC (.int i)) := by
  obtain ⟨t, e⟩ := hm
  exact pe_glob hg e ⟨t, rfl⟩ hd
theorem pe_gr {x : Str} {a : Addr} {pos : Pos} (hg : Gl X x) (hm : X.mg x = some (.ref a)) (hd : (x == ("__debug__" : Str)) = false := by decide) : PE X (.Name x pos) (tC (.ref a)) := pe_glob hg hm rfl hd
end
/-! mathematics of the loops -/
theorem plc_at {ls : List By} {u x : By} {i : Nat} (h : ls[i]? = some x) : plc (ls.drop i) u i = if x = u then some i else plc (ls.drop (i + 1)) u (i + 1) := by
  rw [drop_at h]
  rfl
theorem noteEnd_le (w : By) : noteEnd w ≤ w.length + 1 := by
  unfold noteEnd
  have h : ∀ l : By, (l.takeWhile isAcc).length ≤ l.length := by
    intro l
    induction l with
    | nil => exact Nat.le_refl _
    | cons b l ih =>
      rw [List.takeWhile_cons]
      split
      · rw [List.length_cons, List.length_cons]; omega
      · exact Nat.zero_le _
  have := h (w.drop 1)
  rw [List.length_drop] at this
  omega
theorem run_at : ∀ (l : By) (j : Nat), j ≤ (l.takeWhile isAcc).length → (j < (l.takeWhile isAcc).length ↔ ∃ b, l[j]? = some b ∧ isAcc b = true)
  | [], j, h => by simp at h ⊢
  | b :: l, j, h => by
    rw [List.takeWhile_cons] at h ⊢
    by_cases hb : isAcc b = true
    · rw [if_pos hb] at h ⊢
      cases j with
      | zero => exact ⟨fun _ => ⟨b, rfl, hb⟩, fun _ => by rw [List.length_cons]; omega⟩
      | succ j =>
        rw [List.length_cons] at h ⊢
        have ih := run_at l j (by omega)
        constructor
        · intro z
          exact ih.mp (by omega)
        · intro z
          have := ih.mpr z
          omega
    · rw [if_neg hb] at h ⊢
      have j0 : j = 0 := by simpa using h
      subst j0
      constructor
      · intro z; simp at z
      · rintro ⟨c, hc, z⟩
        have e : b = c := Option.some.inj hc
        subst e
        exact absurd z hb
theorem end_at {w : By} {e : Nat} (h1 : 1 ≤ e) (h2 : e ≤ noteEnd w) : e < noteEnd w ↔ ∃ b, w[e]? = some b ∧ isAcc b = true := by
  unfold noteEnd at h2 ⊢
  have z := run_at (w.drop 1) (e - 1) (by omega)
  have g : (w.drop 1)[e - 1]? = w[e]? := by
    rw [List.getElem?_drop]
    congr 1
    omega
  rw [g] at z
  rw [← z]
  omega
theorem spl_step {m b : Nat} {t : By} {i : Nat} (cur : By) (h : t[i]? = some b) : spl m cur (t.drop i) = if b = m then cur :: spl m [] (t.drop (i + 1)) else spl m (cur ++ [b]) (t.drop (i + 1)) := by
  rw [drop_at h]
  rfl
theorem rdChord_long {w : By} (h : 2 < (spl 47 [] w).length) : rdChord w = none := by
  unfold rdChord
  match e : spl 47 [] w with
  | [] => rfl
  | [_] => rw [e] at h; simp at h
  | [_, _] => rw [e] at h; simp at h
  | _ :: _ :: _ :: _ => rfl
theorem rdChord_1 {w s : By} (h : spl 47 [] w = [s]) : rdChord w = (match rdRoot s, rdKind s with
    | some r, some k => some [(r.1 : Int), r.2, (k : Int), 7, 0]
    | _, _ => none) := by
  unfold rdChord
  rw [h]
  try rfl
theorem rdChord_2 {w s q : By} (h : spl 47 [] w = [s, q]) : rdChord w = (match rdRoot s, rdKind s, rdNote q with
    | some r, some k, some b => if b = r then none else some [(r.1 : Int), r.2, (k : Int), (b.1 : Int), b.2]
    | _, _, _ => none) := by
  unfold rdChord
  rw [h]
  try rfl
theorem plc_lt : ∀ {ls : List By} {w : By} {k r : Nat}, plc ls w k = some r → r < k + ls.length
  | [], _, _, _, h => by cases h
  | s :: l, w, k, r, h => by
    unfold plc at h
    rw [List.length_cons]
    by_cases e : s = w
    · rw [if_pos e] at h
      have := Option.some.inj h
      omega
    · rw [if_neg e] at h
      have := plc_lt h
      omega
theorem rdNote_lt {w : By} {p : Nat × Int} (h : rdNote w = some p) : p.1 < 7 := by
  unfold rdNote at h
  cases e1 : plc lettersT (w.take 1) 0 with
  | none => rw [e1] at h; cases h
  | some k =>
    rw [e1] at h
    cases e2 : plc altsT (w.drop 1) 0 with
    | none => rw [e2] at h; cases h
    | some a =>
      rw [e2] at h
      have z := Option.some.inj h
      have := plc_lt e1
      rw [← z]
      have l7 : lettersT.length = 7 := rfl
      omega
theorem rdChord_len {w : By} {c : List Int} (h : rdChord w = some c) : c.length = 5 := by
  unfold rdChord at h
  split at h
  · split at h
    · rw [← Option.some.inj h]; rfl
    · cases h
  · split at h
    · split at h
      · cases h
      · rw [← Option.some.inj h]; rfl
    · cases h
  · cases h
theorem rdAll_len : ∀ {l : List By} {cs : List (List Int)}, rdAll l = some cs → cs.length = l.length ∧ ∀ c, c ∈ cs → c.length = 5
  | [], cs, h => by
    rw [← Option.some.inj (show some [] = some cs from h)]
    exact ⟨rfl, fun c hc => by cases hc⟩
  | w :: l, cs, h => by
    unfold rdAll at h
    cases e1 : rdChord w with
    | none => rw [e1] at h; cases h
    | some c =>
      rw [e1] at h
      cases e2 : rdAll l with
      | none => rw [e2] at h; cases h
      | some r =>
        rw [e2] at h
        obtain ⟨h1, h2⟩ := rdAll_len e2
        rw [← Option.some.inj h]
        refine ⟨by rw [List.length_cons, List.length_cons, h1], fun x hx => ?_⟩
        rcases List.mem_cons.mp hx with rfl | hx
        · exact rdChord_len e1
        · exact h2 x hx
theorem rdSong_len {t : By} {cs : List (List Int)} (h : rdSong t = some cs) : cs.length ≤ t.length + 1 ∧ ∀ c, c ∈ cs → c.length = 5 := by
  unfold rdSong at h
  by_cases e : t = []
  · rw [if_pos e] at h
    rw [← Option.some.inj h]
    exact ⟨Nat.zero_le _, fun c hc => by cases hc⟩
  · rw [if_neg e] at h
    obtain ⟨h1, h2⟩ := rdAll_len h
    exact ⟨by rw [h1]; exact spl_len 32 t, h2⟩
theorem flat_len {cs : List (List Int)} (h : ∀ c, c ∈ cs → c.length = 5) : cs.flatten.length = 5 * cs.length := by
  induction cs with
  | nil => rfl
  | cons c cs ih =>
    rw [List.flatten_cons, List.length_append, h c (List.mem_cons_self ..), ih fun x hx => h x (List.mem_cons_of_mem _ hx), List.length_cons]
    omega
end Cg

namespace Cg
open PySem
/-! the row's text by places -/
def top (i : Nat) : Stmt := PySem.Challenge.pw_chordgrip_s04_grip.main.body.getD i (.Pass ⟨0, 0, 0, 0⟩)
abbrev sGrip : Stmt := top 24
abbrev sChord : Stmt := top 25
abbrev sEnd : Stmt := top 26
abbrev sNote : Stmt := top 27
abbrev sPlace : Stmt := top 28
abbrev sSplit : Stmt := top 29
abbrev sCT : Stmt := top 30
abbrev sBT : Stmt := top 31
abbrev sNT : Stmt := top 32
abbrev sSAT : Stmt := top 33
abbrev sBest : Stmt := top 34
abbrev sGrips : Stmt := top 35
abbrev sStr : Stmt := top 36
abbrev sGood : Stmt := top 37
abbrev sSound : Stmt := top 38
abbrev sFing : Stmt := top 39
abbrev sWorth : Stmt := top 40
end Cg

set_option Elab.async false
set_option linter.all false
set_option maxRecDepth 100000
set_option maxHeartbeats 2000000
/-! reading a chord: one theorem a def -/
namespace Cg
open PySem PySem.Spec PyProof.Rows L2 Rd
def spPlace (K : PySem.W.Frag) : Sp := fun vs H Q _ => ∃ (a n : Addr) (u : By) (ls : List By), vs = [.ref a, .ref n] ∧ SqL K H a (iv u) ∧ SqT K H n (txts ls) ∧ (∀ x, x ∈ ls → x.length ≤ 100) ∧
  ∀ H' : Hp, Same H H' → Q (optI (plc ls u 0)) H'
def spEnd (K : PySem.W.Frag) : Sp := fun vs H Q _ => ∃ (a : Addr) (u : By), vs = [.ref a] ∧ SqL K H a (iv u) ∧ ∀ H' : Hp, Same H H' → Q (.int ((noteEnd u : Nat) : Int)) H'
def spNote (K : PySem.W.Frag) : Sp := fun vs H Q _ => ∃ (a : Addr) (u : By), vs = [.ref a] ∧ SqL K H a (iv u) ∧ ∀ (H' : Hp) (v : V), Same H H' → NoteV K H' v (rdNote u) → Q v H'
def spSplit (K : PySem.W.Frag) : Sp := fun vs H Q _ => ∃ (m : Nat) (a : Addr) (t : By), vs = [.int ((m : Nat) : Int), .ref a] ∧ SqL K H a (iv t) ∧ t.length ≤ 1000 ∧
  ∀ (H' : Hp) (l : Addr) (ps : List Addr), Same H H' → H l = none → (∀ x, x ∈ ps → H x = none) → H' l = some (.lst (ps.map V.ref)) → RowsAt H' ps ((spl m [] t).map iv) → Q (.ref l) H'
def spChord (K : PySem.W.Frag) : Sp := fun vs H Q _ => ∃ (a : Addr) (u : By), vs = [.ref a] ∧ SqL K H a (iv u) ∧ u.length ≤ 1000 ∧
  (∀ H' : Hp, Same H H' → rdChord u = none → Q .non H') ∧ (∀ (H' : Hp) (l : Addr) (c : List Int), Same H H' → H l = none → rdChord u = some c → H' l = some (.lst (c.map V.int)) → Q (.ref l) H')
/-! the module's names that reading asks for -/
structure Txt (K : PySem.W.Frag) (mg : Str → Option Value) : Prop where
  slash : ∃ t, mg "SLASH" = some (.int 47 t)
  sharp : ∃ t, mg "SHARP" = some (.int 35 t)
  flat : ∃ t, mg "FLAT" = some (.int 98 t)
  low : ∃ t, mg "LOWEST_ALTERATION" = some (.int (-2) t)
  letters : ∃ a, mg "LETTERS" = some (.ref a) ∧ ∀ H, SqT K H a (txts lettersT)
  alts : ∃ a, mg "ALTERATIONS" = some (.ref a) ∧ ∀ H, SqT K H a (txts altsT)
  kinds : ∃ a, mg "KINDS" = some (.ref a) ∧ ∀ H, SqT K H a (txts kindsT)
  nobass : ∃ a, mg "NO_BASS" = some (.ref a) ∧ ∀ H, SqT K H a [.int 7, .int 0]
  len : mg "len" = none
  ord : mg "ord" = none
  enum : mg "enumerate" = none
/-- the most of bytes and two refusals -/
structure TxtC (mg : Str → Option Value) : Prop where
  most : ∃ t, mg "MOST_BYTES" = some (.int 400 t)
  told : ∃ t, mg "NOT_AS_TOLD" = some (.int (-22) t)
  nos : ∃ t, mg "NO_SONG" = some (.int (-71) t)
theorem short_letters : ∀ x, x ∈ lettersT → x.length ≤ 100 := by decide
theorem short_alts : ∀ x, x ∈ altsT → x.length ≤ 100 := by decide
theorem short_kinds : ∀ x, x ∈ kindsT → x.length ≤ 100 := by decide
section
variable {P : Program} {w : World} {K : PySem.W.Frag} {mg : Str → Option Value} {base : Heap}
/-! place_of -/
theorem scPlace : FnScope ["part", "names", "place", "name", "sign"] ["part", "names"] (defScope sPlace) := ⟨rfl, rfl, rfl, by decide +kernel, rfl, by decide +kernel, by decide +kernel⟩
theorem ok_place {f : Addr} {fd : FuncData} (F : Fun K "place_of" "place_of" sPlace f fd) (T : Txt K mg) : FnOk P w K mg base CX0 1 f fd ["part", "names"] (spPlace K) := by
  refine F.ok scPlace (fun vs H Q E h => ?_) (fun cdv A outer s H vs Q E hr h => ?_)
  · obtain ⟨a, n, u, ls, rfl, _⟩ := h
    rfl
  · obtain ⟨a, n, u, ls, rfl, hS, hN, hlen, k⟩ := h
    have hu := hr.units
    have hblk : blkC ["part", "names", "place", "name", "sign"] (defScope sPlace) { kind := .function, names := [(".0", .local), ("sign", .local), ("ord", .globalImplicit)], isGenerator := false, isCoroutine := false } [("sign", 4)] = true := by decide +kernel
    refine ⟨_, pss_cons (ps_for PassesOwn.never rfl (pi_enumT rfl T.enum (pa_cons (pv 1) pa_nil)) (pg_tup rfl (pgs_cons (pg_name (i := 2) scPlace.nd rfl (Or.inl rfl)) (pgs_cons (pg_name (i := 3) scPlace.nd rfl (Or.inl rfl)) pgs_nil)))
        (pss_one (ps_if (pt_cmpR (op_eqD hu) (pe_lc (own := [("sign", 4)]) rfl scPlace.nd (pi_str (pv 3)) (blkOk_by hblk) (fun _ _ _ _ _ => pg_name (i := 4) scPlace.nd rfl (Or.inl rfl)) (fun _ _ _ _ _ => pts_nil)
          (fun _ _ _ _ _ => pe_callB call_ord rfl T.ord boot_ord (pa_cons (pv 4) pa_nil))) (pv 0) (nomark _)) (pss_one (ps_ret (pv 2))) pss_nil)))
      (pss_one (ps_ret pe_non)), ?_⟩
    refine ⟨_, rfl, n, _, rfl, hN, for_enumT (K := K) (a := n) (xs := txts ls) (fun i σ H' => ∃ v2 v3 v4 : Option V, σ = [some (.ref a), some (.ref n), v2, v3, v4] ∧ Same H H' ∧ plc (ls.drop i) u i = plc ls u 0)
      ⟨none, none, none, rfl, Same.refl H, rfl⟩ (fun i σ H' _ ⟨_, _, _, _, s1, _⟩ => s1.seqT hN) ?_ ?_⟩
    · rintro i y T' σ H1 hi ⟨v2, v3, v4, rfl, s1, hp⟩ hT
      obtain ⟨x, hx, rfl⟩ := txts_get hi
      have s2 : Same H (upd H1 T' (.tup [.int (i : Nat), V.str ⟨x.toArray⟩])) := s1.trans (Same.new hT)
      have hxl : x.length ≤ 100 := hlen x (List.mem_of_getElem? hx)
      refine ⟨T', _, rfl, SqT.of upd_same, rfl, _, _, rfl, _, _, rfl, rfl, ?_⟩
      refine ⟨_, rfl, ⟨x.toArray⟩, rfl, fun D hD => lc_str (x := ⟨x.toArray⟩) (fun j H' => H' D = some (.lst (iv (x.take j))) ∧ Same (upd H1 T' (.tup [.int (i : Nat), V.str ⟨x.toArray⟩])) H') ⟨upd_same, Same.new hD⟩ ?_ ?_⟩
      · rintro j c H2 hc ⟨hD2, s3⟩
        have hc' : x[j]? = some c := by simpa using hc
        refine ⟨rfl, tYes_if ?_⟩
        refine ⟨_, rfl, ⟨#[c]⟩, rfl, rfl, _, hD2, ?_, ?_, ?_⟩
        · rw [iv_len, List.length_take]
          exact Nat.lt_of_le_of_lt (Nat.le_trans (Nat.min_le_right _ _) hxl) (by decide)
        · rw [take_snoc hc', iv_snoc]
          exact upd_same
        · exact s3.put hD
      · rintro H2 ⟨hD2, s3⟩
        have el : x.take (⟨x.toArray⟩ : Str).cps.toList.length = x := by simp
        rw [el] at hD2
        refine ⟨_, rfl, pdI x, pdI u, dp_iv (SqL.of hD2), dp_iv ((s2.trans s3).seq hS), shaped_iv _, shaped_iv _, _, rfl, ?_⟩
        rw [eqv_iv]
        have hstep := plc_at (u := u) hx
        refine iteD (fun e => ?_) (fun e => ?_)
        · rw [if_pos e, hp] at hstep
          refine ⟨_, rfl, ?_⟩
          have q := k H2 (s2.trans s3)
          rw [hstep] at q
          exact q
        · rw [if_neg e, hp] at hstep
          exact ⟨_, _, _, rfl, s2.trans s3, hstep.symm⟩
    · rintro σ H1 ⟨v2, v3, v4, rfl, s1, hp⟩
      rw [txts_len, List.drop_of_length_le (Nat.le_refl _)] at hp
      have q := k H1 s1
      rw [← hp] at q
      exact q
/-! note_end -/
theorem scEnd : FnScope ["part", "end"] ["part"] (defScope sEnd) := ⟨rfl, rfl, rfl, by decide +kernel, rfl, by decide +kernel, by decide +kernel⟩
theorem in_acc (b : Nat) : inV (.int ((b : Nat) : Int)) [.int 35, .int 98] = isAcc b := by
  rw [Bool.eq_iff_iff, isAcc_iff]
  simp [inV, eqV]
  omega
theorem ok_end {f : Addr} {fd : FuncData} (F : Fun K "note_end" "note_end" sEnd f fd) (T : Txt K mg) : FnOk P w K mg base CX0 1 f fd ["part"] (spEnd K) := by
  refine F.ok scEnd (fun vs H Q E h => ?_) (fun cdv A outer s H vs Q E hr h => ?_)
  · obtain ⟨a, u, rfl, _⟩ := h
    rfl
  · obtain ⟨a, u, rfl, hS, k⟩ := h
    refine ⟨_, pss_cons (ps_set (i := 1) scEnd.nd rfl (Or.inl rfl) pe_int)
      (pss_cons (ps_while PassesOwn.never (PW.pt (pw_and (pt_cmpR op_lt (pv 1) (pe_callB call_len_seq rfl T.len boot_len (pa_cons (pv 0) pa_nil)) (nomark _))
          (pw_and1 (pt_cmpR op_in_seq (pe_ix ix_list (pv 0) (pv 1) (fun _ _ => rfl)) (pe_tup (pa_cons (pe_gi rfl T.sharp) (pa_cons (pe_gi rfl T.flat) pa_nil))) (by with_unfolding_all rfl)))))
        (pss_one (ps_aug (i := 1) scEnd.nd rfl (Or.inl rfl) pe_int ip_add)))
      (pss_one (ps_ret (pv 1)))), ?_⟩
    refine ⟨fun m σ H' => ∃ e : Nat, σ = [some (.ref a), some (.int ((e : Nat) : Int))] ∧ Same H H' ∧ 1 ≤ e ∧ e ≤ noteEnd u ∧ m = noteEnd u - e, ⟨_, 1, rfl, Same.refl H, Nat.le_refl _, by unfold noteEnd; omega, rfl⟩, ?_⟩
    rintro m σ H1 ⟨e, rfl, s1, h1, h2, rfl⟩
    have hend := end_at h1 h2
    refine ⟨_, rfl, _, rfl, a, _, rfl, .inl (s1.seq hS), _, _, rfl, rfl, _, rfl, ?_⟩
    refine iteD (fun hlt => ?_) (fun hlt => ?_)
    · have hlt' : e < u.length := by rw [iv_len] at hlt; omega
      obtain ⟨b, hb⟩ : ∃ b, u[e]? = some b := ⟨_, List.getElem?_eq_getElem hlt'⟩
      refine ⟨_, rfl, _, rfl, a, _, _, _, rfl, rfl, s1.seq hS, atI_nat (iv_at hb), (by show 2 ≤ sizeLine; decide), fun t ht => ⟨t, _, rfl, .inr (SqT.of upd_same), rfl, rfl, _, rfl, ?_⟩⟩
      show if inV (.int ((b : Nat) : Int)) [.int 35, .int 98] = true then _ else _
      rw [in_acc]
      have s2 := s1.trans (Same.new (o := .tup [.int 35, .int 98]) ht)
      by_cases hacc : isAcc b = true
      · rw [if_pos hacc]
        have hl : e < noteEnd u := hend.mpr ⟨b, hb, hacc⟩
        refine ⟨fun σ' H' => ∃ m', m' < noteEnd u - e ∧ ∃ e' : Nat, σ' = [some (.ref a), some (.int ((e' : Nat) : Int))] ∧ Same H H' ∧ 1 ≤ e' ∧ e' ≤ noteEnd u ∧ m' = noteEnd u - e', fun _ _ z => z, ?_⟩
        refine ⟨_, rfl, _, _, rfl, rfl, _, ?_, e + 1, rfl, s2, by omega, by omega, rfl⟩
        omega
      · rw [if_neg hacc]
        have he : e = noteEnd u := by
          have : ¬ e < noteEnd u := fun z => by
            obtain ⟨c, hc, z'⟩ := hend.mp z
            rw [hb] at hc
            exact hacc (by rw [Option.some.inj hc]; exact z')
          omega
        refine ⟨_, rfl, ?_⟩
        rw [he]
        exact k _ s2
    · have hlt' : ¬ e < u.length := by rw [iv_len] at hlt; omega
      have he : e = noteEnd u := by
        have : ¬ e < noteEnd u := fun z => by
          obtain ⟨c, hc, _⟩ := hend.mp z
          exact hlt' (List.getElem?_eq_some_iff.mp hc).1
        omega
      refine ⟨_, rfl, ?_⟩
      rw [he]
      exact k _ s1
/-! read_note -/
theorem scNote : FnScope ["part", "letter", "alteration"] ["part"] (defScope sNote) := ⟨rfl, rfl, rfl, by decide +kernel, rfl, by decide +kernel, by decide +kernel⟩
theorem optI_ne {o : Option Nat} (h : optI o ≠ .non) : ∃ k, o = some k := by
  cases o with
  | none => exact absurd rfl h
  | some k => exact ⟨k, rfl⟩
theorem optI_eq {o : Option Nat} (h : optI o = .non) : o = none := by
  cases o with
  | none => rfl
  | some k => cases h
theorem rdNote_l {u : By} (h : plc lettersT (u.take 1) 0 = none) : rdNote u = none := by
  unfold rdNote
  rw [h]
theorem rdNote_a {u : By} (h : plc altsT (u.drop 1) 0 = none) : rdNote u = none := by
  unfold rdNote
  rw [h]
  cases plc lettersT (u.take 1) 0 <;> rfl
theorem rdNote_s {u : By} {i j : Nat} (h : plc lettersT (u.take 1) 0 = some i) (h' : plc altsT (u.drop 1) 0 = some j) : rdNote u = some (i, (j : Int) - 2) := by
  unfold rdNote
  rw [h, h']
theorem ok_note {f fP : Addr} {fd fdP : FuncData} (F : Fun K "read_note" "read_note" sNote f fd) (T : Txt K mg) (FP : Fun K "place_of" "place_of" sPlace fP fdP) (bP : Binds K fdP ["part", "names"] []) (mP : mg "place_of" = some (.ref fP)) : FnOk P w K mg base CX0 2 f fd ["part"] (spNote K) := by
  have GP : FnOk P w K mg base CX0 1 fP fdP ["part", "names"] (spPlace K) := ok_place FP T
  obtain ⟨aL, mL, hL⟩ := T.letters
  obtain ⟨aA, mA, hA⟩ := T.alts
  refine F.ok scNote (fun vs H Q E h => ?_) (fun cdv A outer s H vs Q E hr h => ?_)
  · obtain ⟨a, u, rfl, _⟩ := h
    rfl
  · obtain ⟨a, u, rfl, hS, k⟩ := h
    refine ⟨_, pss_cons (ps_set (i := 1) scNote.nd rfl (Or.inl rfl) (pe_call GP hr rfl mP FP.kp bP .nil pass0 (pa_cons (pe_slice sl_list (pv 0) po_none (po_some pe_int)) (pa_cons (pe_gr rfl mL) pa_nil))))
      (pss_cons (ps_set (i := 2) scNote.nd rfl (Or.inl rfl) (pe_call GP hr rfl mP FP.kp bP .nil pass0 (pa_cons (pe_slice sl_list (pv 0) (po_some pe_int) po_none) (pa_cons (pe_gr rfl mA) pa_nil))))
      (pss_cons (ps_if (PW.pt (pw_or (pt_cmp (pc_isN (pv 1))) (pw_or1 (pt_cmp (pc_isN (pv 2)))))) (pss_one (ps_ret pe_non)) pss_nil)
      (pss_one (ps_ret (pe_tup (pa_cons (pv 1) (pa_cons (pe_op op_add (pv 2) (pe_gi rfl T.low)) pa_nil))))))), ?_⟩
    -- letter = place_of(part[:1], LETTERS)
    refine ⟨_, rfl, 1, rfl, a, _, rfl, hS, fun p hp => ?_⟩
    refine ⟨p, aL, u.take 1, lettersT, rfl, SqL.of (upd_same.trans (by rw [cut_take (e := 1) (n := 1) rfl])), hL _, short_letters, fun H1 s1 => ?_⟩
    have s01 : Same H H1 := (Same.new hp).trans s1
    -- alteration = place_of(part[1:], ALTERATIONS)
    refine ⟨_, rfl, 1, rfl, a, _, rfl, s01.seq hS, fun p2 hp2 => ?_⟩
    refine ⟨p2, aA, u.drop 1, altsT, rfl, SqL.of (upd_same.trans (by rw [cut_drop (e := 1) (n := 1) rfl])), hA _, short_alts, fun H2 s2 => ?_⟩
    have s02 : Same H H2 := s01.trans ((Same.new hp2).trans s2)
    -- if letter is None or alteration is None
    refine ⟨_, rfl, _, rfl, ifN (fun e => ?_) (fun e => ?_)⟩
    · exact iteT (k H2 _ s02 (by rw [rdNote_l (optI_eq e)]; rfl))
    · obtain ⟨i, ei⟩ := optI_ne e
      refine ⟨_, rfl, _, rfl, ifN (fun e2 => ?_) (fun e2 => ?_)⟩
      · exact k H2 _ s02 (by rw [rdNote_a (optI_eq e2)]; rfl)
      · obtain ⟨j, ej⟩ := optI_ne e2
        rw [ei, ej]
        refine ⟨_, rfl, _, rfl, _, _, rfl, rfl, (by show 2 ≤ sizeLine; decide), fun t ht => ?_⟩
        refine k _ _ (s02.trans (Same.new ht)) ?_
        rw [rdNote_s ei ej]
        exact ⟨t, rfl, SqT.of upd_same⟩
/-! split_at -/
theorem scSplit : FnScope ["mark", "t", "parts", "part", "byte"] ["mark", "t"] (defScope sSplit) := ⟨rfl, rfl, rfl, by decide +kernel, rfl, by decide +kernel, by decide +kernel⟩
theorem spl_end (m : Nat) (cur : By) (t : By) : spl m cur (t.drop t.length) = [cur] := by
  rw [List.drop_of_length_le (Nat.le_refl _)]
  rfl
theorem ok_split {f : Addr} {fd : FuncData} (F : Fun K "split_at" "split_at" sSplit f fd) (T : Txt K mg) : FnOk P w K mg base CX0 1 f fd ["mark", "t"] (spSplit K) := by
  refine F.ok scSplit (fun vs H Q E h => ?_) (fun cdv A outer s H vs Q E hr h => ?_)
  · obtain ⟨m, a, t, rfl, _⟩ := h
    rfl
  · obtain ⟨m, a, t, rfl, hS, hlen, k⟩ := h
    refine ⟨_, pss_cons (ps_set (i := 2) scSplit.nd rfl (Or.inl rfl) (pe_lst pa_nil))
      (pss_cons (ps_set (i := 3) scSplit.nd rfl (Or.inl rfl) (pe_lst pa_nil))
      (pss_cons (ps_for PassesOwn.never rfl (pi_list (pv 1)) (pg_name (i := 4) scSplit.nd rfl (Or.inl rfl))
        (pss_one (ps_if (pt_cmpR op_eq (pv 4) (pv 0) (nomark _))
          (pss_cons (ps_expr (pe_bm PySem.F.plainAttrs_list PySem.F.slot_list_append PySem.F.type_list_append mt_append (pv 2) (pa_cons (pv 3) pa_nil))) (pss_one (ps_set (i := 3) scSplit.nd rfl (Or.inl rfl) (pe_lst pa_nil))))
          (pss_one (ps_expr (pe_bm PySem.F.plainAttrs_list PySem.F.slot_list_append PySem.F.type_list_append mt_append (pv 3) (pa_cons (pv 4) pa_nil)))))))
      (pss_cons (ps_expr (pe_bm PySem.F.plainAttrs_list PySem.F.slot_list_append PySem.F.type_list_append mt_append (pv 2) (pa_cons (pv 3) pa_nil)))
      (pss_one (ps_ret (pv 2)))))), ?_⟩
    refine ⟨Nat.zero_le _, fun p hp => ?_⟩
    refine ⟨Nat.zero_le _, fun q0 hq0 => ?_⟩
    have s0 : Same H (upd H p (.lst [])) := Same.new hp
    have hpq0 : p ≠ q0 := ne_of_none upd_same hq0
    have s1 : Same H (upd (upd H p (.lst [])) q0 (.lst [])) := s0.trans (Same.new hq0)
    refine ⟨_, rfl, a, rfl, ⟨_, s1.seq hS⟩, for_list (K := K) (a := a) (xs := iv t) (fun i σ H' => ∃ (q : Addr) (ps : List Addr) (ws : List By) (cur : By) (v : Option V),
        σ = [some (.int ((m : Nat) : Int)), some (.ref a), some (.ref p), some (.ref q), v] ∧ H' p = some (.lst (ps.map V.ref)) ∧ H' q = some (.lst (iv cur)) ∧ Same H H' ∧ RowsAt H' ps (ws.map iv) ∧
        H q = none ∧ p ≠ q ∧ (∀ x, x ∈ ps → x ≠ p ∧ x ≠ q ∧ H x = none) ∧ ws ++ spl m cur (t.drop i) = spl m [] t ∧ cur.length ≤ i ∧ ws.length ≤ i)
      ⟨q0, [], [], [], none, rfl, (by rw [upd_ne hpq0]; exact upd_same), upd_same, s1, .nil, s0.free hq0, hpq0, (fun x hx => by cases hx), rfl, Nat.le_refl _, Nat.le_refl _⟩ (fun i σ H' _ ⟨_, _, _, _, _, _, _, _, s2, _⟩ => s2.seq hS) ?_ ?_⟩
    · rintro i y σ H' hi ⟨q, ps, ws, cur, v, rfl, hp', hq', s2, rw', hq0', hpq, hne, hsp, hl1, hl2⟩
      obtain ⟨b, hb, rfl⟩ := iv_get hi
      have hil : i < t.length := (List.getElem?_eq_some_iff.mp hb).1
      have hst := spl_step (m := m) cur hb
      refine ⟨_, rfl, _, rfl, rfl, _, rfl, ?_⟩
      refine iteD (fun e => ?_) (fun e => ?_)
      · have eb : b = m := by
          have z := V.int.inj e
          omega
        rw [if_pos eb] at hst
        refine ⟨_, rfl, .inl ⟨rfl, _, SqL.of hp'⟩, _, rfl, p, _, _, rfl, rfl, hp', ?_, Nat.zero_le _, fun q2 hq2 => ?_⟩
        · rw [List.length_map, rw'.length, List.length_map]
          exact Nat.lt_of_le_of_lt (Nat.le_trans hl2 (by omega)) (show 1000 < sizeLine by decide)
        · have hpq2 : p ≠ q2 := ne_of_none upd_same hq2
          have hqq2 : q ≠ q2 := fun z => by
            subst z
            rw [upd_ne (Ne.symm hpq), hq'] at hq2
            cases hq2
          have nin : ∀ x, x ∈ ps → x ≠ q2 := fun x hx z => by
            subst z
            obtain ⟨j, hj⟩ := List.getElem?_of_mem hx
            obtain ⟨w', _, hw'⟩ := rw'.get hj
            rw [upd_ne (hne x hx).1, hw'] at hq2
            cases hq2
          refine ⟨q2, ps ++ [q], ws ++ [cur], [], _, rfl, ?_, upd_same, ?_, ?_, ?_, hpq2, ?_, ?_, Nat.zero_le _, ?_⟩
          · rw [upd_ne hpq2, upd_same, refs_snoc]
          · refine (s2.put (l := p) hp).put (l := q2) ?_
            exact (s2.put (l := p) hp).free hq2
          · rw [List.map_append]
            refine RowsAt.snoc (rw'.mono fun x hx o ex => ?_) ?_
            · rw [upd_ne (nin x hx), upd_ne (hne x hx).1]
              exact ex
            · rw [upd_ne hqq2, upd_ne (Ne.symm hpq)]
              exact hq'
          · exact (s2.put (l := p) hp).free hq2
          · intro x hx
            rcases List.mem_append.mp hx with hx | hx
            · exact ⟨(hne x hx).1, nin x hx, (hne x hx).2.2⟩
            · rw [List.mem_singleton.mp hx]
              exact ⟨Ne.symm hpq, hqq2, hq0'⟩
          · rw [← hsp, hst, List.append_assoc]
            rfl
          · rw [List.length_append]
            show ws.length + 1 ≤ i + 1
            omega
      · have eb : ¬ b = m := fun z => e (by rw [z])
        rw [if_neg eb] at hst
        refine ⟨_, rfl, .inl ⟨rfl, _, SqL.of hq'⟩, _, rfl, q, _, _, rfl, rfl, hq', ?_, ?_⟩
        · rw [iv_len]
          exact Nat.lt_of_le_of_lt (Nat.le_trans hl1 (by omega)) (show 1000 < sizeLine by decide)
        · refine ⟨q, ps, ws, cur ++ [b], _, rfl, ?_, ?_, s2.put hq0', ?_, hq0', hpq, hne, ?_, ?_, by omega⟩
          · rw [upd_ne hpq]
            exact hp'
          · rw [iv_snoc]
            exact upd_same
          · refine rw'.mono fun x hx o ex => ?_
            rw [upd_ne (hne x hx).2.1]
            exact ex
          · rw [← hsp, hst]
          · rw [List.length_append]
            show cur.length + 1 ≤ i + 1
            omega
    · rintro σ H' ⟨q, ps, ws, cur, v, rfl, hp', hq', s2, rw', hq0', hpq, hne, hsp, hl1, hl2⟩
      rw [iv_len] at hsp hl2
      rw [spl_end] at hsp
      refine ⟨_, rfl, .inl ⟨rfl, _, SqL.of hp'⟩, _, rfl, p, _, _, rfl, rfl, hp', ?_, ?_⟩
      · rw [List.length_map, rw'.length, List.length_map]
        exact Nat.lt_of_le_of_lt (Nat.le_trans hl2 hlen) (show 1000 < sizeLine by decide)
      · refine ⟨_, rfl, k _ p (ps ++ [q]) (s2.put hp) hp (fun x hx => ?_) ?_ ?_⟩
        · rcases List.mem_append.mp hx with hx | hx
          · exact (hne x hx).2.2
          · rw [List.mem_singleton.mp hx]
            exact hq0'
        · rw [← refs_snoc]
          exact upd_same
        · rw [← hsp, List.map_append]
          refine RowsAt.snoc (rw'.mono fun x hx o ex => ?_) ?_
          · rw [upd_ne (hne x hx).1]
            exact ex
          · rw [upd_ne (Ne.symm hpq)]
            exact hq'
/-! read_chord -/
theorem scChord : FnScope ["part", "sides", "end", "root", "kind", "bass"] ["part"] (defScope sChord) := ⟨rfl, rfl, rfl, by decide +kernel, rfl, by decide +kernel, by decide +kernel⟩
theorem NoteV.ne {H : Hp} {v : V} {o : Option (Nat × Int)} (h : NoteV K H v o) (hv : v ≠ .non) : ∃ p b, o = some p ∧ v = .ref b ∧ SqT K H b [.int ((p.1 : Nat) : Int), .int p.2] := by
  cases o with
  | none => exact absurd h hv
  | some p => obtain ⟨b, e, q⟩ := h; exact ⟨p, b, rfl, e, q⟩
theorem NoteV.eq {H : Hp} {v : V} {o : Option (Nat × Int)} (h : NoteV K H v o) (hv : v = .non) : o = none := by
  cases o with
  | none => rfl
  | some p => obtain ⟨b, e, q⟩ := h; rw [e] at hv; cases hv
/-- the bass that is told, or the mark of none -/
def bassOf (u : By) : Option (Nat × Int) := match spl 47 [] u with
  | [_, q] => rdNote q
  | _ => some (7, 0)
def chordBy (s u : By) : Option (List Int) := match rdRoot s, rdKind s, bassOf u with
  | some r, some k, some b => if b = r then none else some [(r.1 : Int), r.2, (k : Int), (b.1 : Int), b.2]
  | _, _, _ => none
theorem chord_by {u s : By} {rest : List By} (h : spl 47 [] u = s :: rest) (hl : ¬ 2 < (spl 47 [] u).length) : rdChord u = chordBy s u := by
  match rest, h with
  | [], h =>
    have eb : bassOf u = some (7, 0) := by unfold bassOf; rw [h]
    unfold chordBy
    rw [rdChord_1 h, eb]
    cases er : rdRoot s with
    | none => rfl
    | some r =>
      cases rdKind s with
      | none => rfl
      | some k =>
        have hr : r.1 < 7 := rdNote_lt er
        have ne : ¬ ((7, 0) : Nat × Int) = r := fun z => by rw [← z] at hr; exact absurd hr (by decide)
        show _ = if ((7, 0) : Nat × Int) = r then none else _
        rw [if_neg ne]
        rfl
  | [q], h =>
    have eb : bassOf u = rdNote q := by unfold bassOf; rw [h]
    unfold chordBy
    rw [rdChord_2 h, eb]
    try (cases rdRoot s <;> cases rdKind s <;> cases rdNote q <;> rfl)
  | a :: b :: r, h => rw [h] at hl; exact absurd (by simp) hl
/-- the last two statements of read_chord, read -/
def tFin (K : PySem.W.Frag) : TS := tSeq (tIfS (tOr (tB (tIsN (tVar 3))) (tOr (tB (tIsN (tVar 4))) (tOr (tB (tIsN (tVar 5))) (tTest (tOp (rEqD K) (tVar 5) (tVar 3)))))) (tRet (tC .non)) tNext)
  (tRet (tLst (tCons (tOp (rIxT K) (tVar 3) (tC (.int 0))) (tCons (tOp (rIxT K) (tVar 3) (tC (.int 1))) (tCons (tVar 4) (tCons (tOp (rIxT K) (tVar 5) (tC (.int 0))) (tCons (tOp (rIxT K) (tVar 5) (tC (.int 1))) tNil)))))))
theorem chordBy_r {s u : By} (h : rdRoot s = none) : chordBy s u = none := by
  unfold chordBy
  rw [h]
theorem chordBy_k {s u : By} (h : rdKind s = none) : chordBy s u = none := by
  unfold chordBy
  rw [h]
  cases rdRoot s <;> rfl
theorem chordBy_b {s u : By} (h : bassOf u = none) : chordBy s u = none := by
  unfold chordBy
  rw [h]
  cases rdRoot s <;> cases rdKind s <;> rfl
theorem chordBy_s {s u : By} {r b : Nat × Int} {k : Nat} (h1 : rdRoot s = some r) (h2 : rdKind s = some k) (h3 : bassOf u = some b) : chordBy s u = if b = r then none else some [(r.1 : Int), r.2, (k : Int), (b.1 : Int), b.2] := by
  unfold chordBy
  rw [h1, h2, h3]
theorem fin_ok {D : Ends} {H5 : Hp} {v0 v1 v2 : Option V} {vr vb : V} {s0 u : By} (nr : NoteV K H5 vr (rdRoot s0)) (nb : NoteV K H5 vb (bassOf u)) (kn : chordBy s0 u = none → D.rt .non H5)
    (ks : ∀ (l : Addr) (c : List Int), H5 l = none → chordBy s0 u = some c → D.rt (.ref l) (upd H5 l (.lst (c.map V.int)))) : tFin K D [v0, v1, v2, some vr, some (optI (rdKind s0)), some vb] H5 := by
  refine ⟨_, rfl, _, rfl, ifN (fun e => ?_) (fun e => ?_)⟩
  · exact iteT (kn (chordBy_r (nr.eq e)))
  obtain ⟨r, br, er, rfl, hqr⟩ := nr.ne e
  refine ⟨_, rfl, _, rfl, ifN (fun e2 => ?_) (fun e2 => ?_)⟩
  · exact iteT (kn (chordBy_k (optI_eq e2)))
  obtain ⟨kd, ek⟩ := optI_ne e2
  rw [ek]
  refine ⟨_, rfl, _, rfl, ifN (fun e3 => ?_) (fun e3 => ?_)⟩
  · exact iteT (kn (chordBy_b (nb.eq e3)))
  obtain ⟨b, bb, eb, rfl, hqb⟩ := nb.ne e3
  have hs := chordBy_s er ek eb
  refine ⟨_, rfl, _, rfl, pdP b, pdP r, dp_pair hqb, dp_pair hqr, shaped_pair _, shaped_pair _, _, rfl, ?_⟩
  rw [eqv_pair]
  refine iteD (fun e4 => ?_) (fun e4 => ?_)
  · rw [if_pos e4] at hs
    exact kn hs
  · rw [if_neg e4] at hs
    refine ⟨_, rfl, br, _, 0, _, rfl, rfl, hqr, at_of (j := 0) rfl rfl, _, rfl, br, _, 1, _, rfl, rfl, hqr, at_of (j := 1) rfl rfl, _, rfl, _, rfl, bb, _, 0, _, rfl, rfl, hqb, at_of (j := 0) rfl rfl, _, rfl, bb, _, 1, _, rfl, rfl, hqb, at_of (j := 1) rfl rfl, (by show 5 ≤ sizeLine; decide), fun l hl => ?_⟩
    exact ks l _ hl hs
theorem ok_chord {f fP fN fE fS : Addr} {fd fdP fdN fdE fdS : FuncData} (F : Fun K "read_chord" "read_chord" sChord f fd) (T : Txt K mg)
    (FP : Fun K "place_of" "place_of" sPlace fP fdP) (bP : Binds K fdP ["part", "names"] []) (mP : mg "place_of" = some (.ref fP))
    (FN : Fun K "read_note" "read_note" sNote fN fdN) (bN : Binds K fdN ["part"] []) (mN : mg "read_note" = some (.ref fN))
    (FE : Fun K "note_end" "note_end" sEnd fE fdE) (bE : Binds K fdE ["part"] []) (mE : mg "note_end" = some (.ref fE))
    (FS : Fun K "split_at" "split_at" sSplit fS fdS) (bS : Binds K fdS ["mark", "t"] []) (mS : mg "split_at" = some (.ref fS)) : FnOk P w K mg base CX0 3 f fd ["part"] (spChord K) := by
  have GP : FnOk P w K mg base CX0 2 fP fdP ["part", "names"] (spPlace K) := (ok_place FP T).mono (by decide)
  have GE : FnOk P w K mg base CX0 2 fE fdE ["part"] (spEnd K) := (ok_end FE T).mono (by decide)
  have GS : FnOk P w K mg base CX0 2 fS fdS ["mark", "t"] (spSplit K) := (ok_split FS T).mono (by decide)
  have GN : FnOk P w K mg base CX0 2 fN fdN ["part"] (spNote K) := ok_note FN T FP bP mP
  obtain ⟨aK, mK, hK⟩ := T.kinds
  obtain ⟨aB, mB, hB⟩ := T.nobass
  refine F.ok scChord (fun vs H Q E h => ?_) (fun cdv A outer s H vs Q E hr h => ?_)
  · obtain ⟨a, u, rfl, _⟩ := h
    rfl
  · obtain ⟨a, u, rfl, hS, hlen, kn, ks⟩ := h
    have hu := hr.units
    refine ⟨_, pss_cons (ps_set (i := 1) scChord.nd rfl (Or.inl rfl) (pe_call GS hr rfl mS FS.kp bS .nil pass0 (pa_cons (pe_gi rfl T.slash) (pa_cons (pv 0) pa_nil))))
      (pss_cons (ps_if (pt_cmpR op_gt (pe_callB call_len_seq rfl T.len boot_len (pa_cons (pv 1) pa_nil)) pe_int (nomark _)) (pss_one (ps_ret pe_non)) pss_nil)
      (pss_cons (ps_set (i := 2) scChord.nd rfl (Or.inl rfl) (pe_call GE hr rfl mE FE.kp bE .nil pass0 (pa_cons (pe_ix ix_list (pv 1) pe_int (fun _ _ => rfl)) pa_nil)))
      (pss_cons (ps_set (i := 3) scChord.nd rfl (Or.inl rfl) (pe_call GN hr rfl mN FN.kp bN .nil pass0 (pa_cons (pe_slice sl_list (pe_ix ix_list (pv 1) pe_int (fun _ _ => rfl)) po_none (po_some (pv 2))) pa_nil)))
      (pss_cons (ps_set (i := 4) scChord.nd rfl (Or.inl rfl) (pe_call GP hr rfl mP FP.kp bP .nil pass0 (pa_cons (pe_slice sl_list (pe_ix ix_list (pv 1) pe_int (fun _ _ => rfl)) (po_some (pv 2)) po_none) (pa_cons (pe_gr rfl mK) pa_nil))))
      (pss_cons (ps_set (i := 5) scChord.nd rfl (Or.inl rfl) (pe_ifExp (pt_cmpR op_eq (pe_callB call_len_seq rfl T.len boot_len (pa_cons (pv 1) pa_nil)) pe_int (nomark _)) (pe_gr rfl mB) (pe_call GN hr rfl mN FN.kp bN .nil pass0 (pa_cons (pe_ix ix_list (pv 1) pe_int (fun _ _ => rfl)) pa_nil))))
      (pss_cons (ps_if (PW.pt (pw_or (pt_cmp (pc_isN (pv 3))) (pw_or (pt_cmp (pc_isN (pv 4))) (pw_or (pt_cmp (pc_isN (pv 5))) (pw_or1 (pt_cmpR (op_eqD hu) (pv 5) (pv 3) (nomark _))))))) (pss_one (ps_ret pe_non)) pss_nil)
      (pss_one (ps_ret (pe_lst (pa_cons (pe_ix ix_tup (pv 3) pe_int (fun _ _ => rfl)) (pa_cons (pe_ix ix_tup (pv 3) pe_int (fun _ _ => rfl)) (pa_cons (pv 4) (pa_cons (pe_ix ix_tup (pv 5) pe_int (fun _ _ => rfl)) (pa_cons (pe_ix ix_tup (pv 5) pe_int (fun _ _ => rfl)) pa_nil)))))))))))))), ?_⟩
    -- sides = split_at(SLASH, part)
    refine ⟨_, rfl, 47, a, u, rfl, hS, hlen, fun H1 l ps s1 _ _ hl1 r1 => ?_⟩
    have hpl : ps.length = (spl 47 [] u).length := by rw [r1.length, List.length_map]
    -- if len(sides) > 2
    refine ⟨_, rfl, l, _, rfl, .inl (SqL.of hl1), _, _, rfl, rfl, _, rfl, iteD (fun hgt => ?_) (fun hgt => ?_)⟩
    · rw [List.length_map, hpl] at hgt
      exact kn H1 s1 (rdChord_long (by omega))
    rw [List.length_map, hpl] at hgt
    obtain ⟨s0, rest, hspl⟩ := spl_some 47 u []
    rw [hspl, List.map_cons] at r1
    have hby : rdChord u = chordBy s0 u := chord_by hspl (by omega)
    cases r1 with
    | @cons p0 _ ps' _ hp0 r1' =>
      have at0 : ∀ {H' : Hp}, Same H1 H' → SqL K H' l ((p0 :: ps').map V.ref) ∧ SqL K H' p0 (iv s0) := fun s' => ⟨s'.seq (SqL.of hl1), s'.seq (SqL.of hp0)⟩
      -- end = note_end(sides[0])
      refine ⟨_, rfl, l, _, _, _, rfl, rfl, SqL.of hl1, atI_nat (j := 0) rfl, p0, s0, rfl, SqL.of hp0, fun H2 s2 => ?_⟩
      -- root = read_note(sides[0][:end])
      refine ⟨_, rfl, l, _, _, _, rfl, rfl, (at0 s2).1, atI_nat (j := 0) rfl, _, rfl, _, rfl, p0, _, rfl, (at0 s2).2, fun p3 hp3 => ?_⟩
      refine ⟨p3, s0.take (noteEnd s0), rfl, SqL.of (upd_same.trans (by rw [cut_take rfl])), fun H3 vr s3 nr => ?_⟩
      have s13 : Same H1 H3 := s2.trans ((Same.new hp3).trans s3)
      -- kind = place_of(sides[0][end:], KINDS)
      refine ⟨_, rfl, l, _, _, _, rfl, rfl, (at0 s13).1, atI_nat (j := 0) rfl, _, rfl, _, rfl, p0, _, rfl, (at0 s13).2, fun p4 hp4 => ?_⟩
      refine ⟨p4, aK, s0.drop (noteEnd s0), kindsT, rfl, SqL.of (upd_same.trans (by rw [cut_drop rfl])), hK _, short_kinds, fun H4 s4 => ?_⟩
      have s14 : Same H1 H4 := s13.trans ((Same.new hp4).trans s4)
      have nr4 : NoteV K H4 vr (rdRoot s0) := nr.same ((Same.new hp4).trans s4)
      -- what stands behind the bass
      have kn' : ∀ H5 : Hp, Same H4 H5 → chordBy s0 u = none → Q .non H5 := fun H5 s5 h => kn H5 (s1.trans (s14.trans s5)) (hby.trans h)
      have ks' : ∀ H5 : Hp, Same H4 H5 → ∀ (l : Addr) (c : List Int), H5 l = none → chordBy s0 u = some c → Q (.ref l) (upd H5 l (.lst (c.map V.int))) := fun H5 s5 l c hl h =>
        ks _ l c ((s1.trans (s14.trans s5)).trans (Same.new hl)) ((s1.trans (s14.trans s5)).free hl) (hby.trans h) upd_same
      have hlen2 : (p0 :: ps').length = (s0 :: rest).length := by rw [hpl, hspl]
      refine ⟨_, rfl, l, _, rfl, .inl (at0 s14).1, rfl, _, rfl, iteD (fun e => ?_) (fun e => ?_)⟩
      · have z := V.int.inj e
        rw [List.length_map, hlen2] at z
        have er : rest = [] := by
          cases rest with
          | nil => rfl
          | cons _ _ => simp at z; omega
        subst er
        have eb : bassOf u = some (7, 0) := by unfold bassOf; rw [hspl]
        exact fin_ok nr4 (by rw [eb]; exact ⟨aB, rfl, hB _⟩) (kn' H4 (Same.refl _)) (ks' H4 (Same.refl _))
      · have z : ¬ (s0 :: rest).length = 1 := fun z => e (by rw [List.length_map, hlen2, z]; rfl)
        rw [hspl] at hgt
        obtain ⟨q, er⟩ : ∃ q, rest = [q] := by
          match rest, z, hgt with
          | [], z, _ => exact absurd rfl z
          | [q], _, _ => exact ⟨q, rfl⟩
          | _ :: _ :: _, _, hgt => exfalso; simp at hgt; omega
        subst er
        have eb : bassOf u = rdNote q := by unfold bassOf; rw [hspl]
        rw [List.map_cons, List.map_nil] at r1'
        cases r1' with
        | @cons p1 _ ps2 _ hp1 r2 =>
          refine ⟨_, rfl, l, _, 1, _, rfl, rfl, (at0 s14).1, at_of (j := 1) rfl rfl, p1, q, rfl, s14.seq (SqL.of hp1), fun H5 vb s5 nb => ?_⟩
          exact fin_ok (nr4.same s5) (by rw [eb]; exact nb) (kn' H5 s5) (ks' H5 s5)
end
end Cg

set_option linter.all false
namespace Rd
/-! what is read is a chord -/
structure okN (n : Kyg.Note) : Prop where
  le : n.letter ≤ 6
  lo : -2 ≤ n.alt
  hi : n.alt ≤ 2
structure okC (c : Kyg.Chord) : Prop where
  root : okN c.root
  kind : c.kind ≤ 17
  bass : ∀ b, c.bass = some b → okN b ∧ Kyg.sameNote b c.root = false
theorem plc_in : ∀ {ls : List By} {w : By} {k r : Nat}, plc ls w k = some r → w ∈ ls ∧ r < k + ls.length
  | [], _, _, _, h => by cases h
  | s :: l, w, k, r, h => by
    unfold plc at h
    by_cases e : s = w
    · rw [if_pos e] at h
      have := Option.some.inj h
      rw [List.length_cons]
      exact ⟨by rw [e]; exact List.mem_cons_self .., by omega⟩
    · rw [if_neg e] at h
      have := plc_in h
      rw [List.length_cons]
      exact ⟨List.mem_cons_of_mem _ this.1, by omega⟩
theorem kinds_no32 : ∀ x ∈ kindsT, ∀ b ∈ x, b ≠ 32 := by decide
theorem noteIn_ok {s r : By} {n : Kyg.Note} (h : Kyg.noteIn s = some (n, r)) : okN n ∧ ∃ p, s = p ++ r ∧ ∀ b, b ∈ p → b ≠ 32 := by
  have hl := noteIn_letter h
  cases s with
  | nil => cases h
  | cons b l =>
    rw [noteIn_cons] at h
    cases e : Kyg.letterOf b with
    | none => rw [e] at h; cases h
    | some k =>
      rw [e] at h
      have h1 := Option.some.inj h
      have hn : n = ⟨k, (acc l).1⟩ := (congrArg Prod.fst h1).symm
      have hr : r = (acc l).2 := (congrArg Prod.snd h1).symm
      have hb : b ≠ 32 := by intro z; rw [z] at e; cases e
      subst hr
      have ha : n.alt = (acc l).1 := by rw [hn]
      rcases acc_cases l with ⟨q, rfl, eq⟩ | ⟨q, rfl, _, eq⟩ | ⟨q, rfl, eq⟩ | ⟨q, rfl, _, eq⟩ | ⟨_, _, eq⟩
      · rw [eq] at ha ⊢
        exact ⟨⟨hl, by rw [ha]; simp, by rw [ha]; simp⟩, [b, 35, 35], rfl, by intro x hx; simp at hx; rcases hx with rfl | rfl <;> first | exact hb | decide⟩
      · rw [eq] at ha ⊢
        exact ⟨⟨hl, by rw [ha]; simp, by rw [ha]; simp⟩, [b, 35], rfl, by intro x hx; simp at hx; rcases hx with rfl | rfl <;> first | exact hb | decide⟩
      · rw [eq] at ha ⊢
        exact ⟨⟨hl, by rw [ha]; simp, by rw [ha]; simp⟩, [b, 98, 98], rfl, by intro x hx; simp at hx; rcases hx with rfl | rfl <;> first | exact hb | decide⟩
      · rw [eq] at ha ⊢
        exact ⟨⟨hl, by rw [ha]; simp, by rw [ha]; simp⟩, [b, 98], rfl, by intro x hx; simp at hx; rcases hx with rfl | rfl <;> first | exact hb | decide⟩
      · rw [eq] at ha ⊢
        exact ⟨⟨hl, by rw [ha]; simp, by rw [ha]; simp⟩, [b], rfl, by intro x hx; simp at hx; rw [hx]; exact hb⟩
theorem chordIn_ok {w : By} {c : Kyg.Chord} (h : Kyg.chordIn w = some c) : okC c ∧ ∀ b, b ∈ w → b ≠ 32 := by
  rcases cut_at 47 w with hw | ⟨s, q, rfl, hs⟩
  · rw [chordIn_one hw] at h
    cases e : Kyg.noteIn w with
    | none => rw [e] at h; cases h
    | some p =>
      obtain ⟨n, r⟩ := p
      rw [e] at h
      obtain ⟨hn, p, rfl, hp⟩ := noteIn_ok e
      change (plc kindsT r 0).map _ = some c at h
      cases e2 : plc kindsT r 0 with
      | none => rw [e2] at h; cases h
      | some k =>
        rw [e2] at h
        have h1 := Option.some.inj h
        obtain ⟨k1, k2⟩ := plc_in e2
        have k3 : kindsT.length = 18 := rfl
        rw [← h1]
        refine ⟨⟨hn, by show k ≤ 17; omega, fun b hb => by cases hb⟩, fun b hb => ?_⟩
        rcases List.mem_append.mp hb with hb | hb
        · exact hp b hb
        · exact kinds_no32 r k1 b hb
  · rw [chordIn_mark q hs] at h
    cases e : Kyg.noteIn s with
    | none => rw [e] at h; cases h
    | some p =>
      obtain ⟨n, r⟩ := p
      rw [e] at h
      obtain ⟨hn, p, rfl, hp⟩ := noteIn_ok e
      change (plc kindsT r 0).bind _ = some c at h
      cases e2 : plc kindsT r 0 with
      | none => rw [e2] at h; cases h
      | some k =>
        rw [e2] at h
        obtain ⟨k1, k2⟩ := plc_in e2
        have k3 : kindsT.length = 18 := rfl
        change (match Kyg.noteIn q with
          | some (b, []) => if Kyg.sameNote b n then none else some ⟨n, k, some b⟩
          | _ => none) = some c at h
        cases e3 : Kyg.noteIn q with
        | none => rw [e3] at h; cases h
        | some pq =>
          obtain ⟨b, r2⟩ := pq
          rw [e3] at h
          cases r2 with
          | cons x y => cases h
          | nil =>
            obtain ⟨hb, p2, rfl, hp2⟩ := noteIn_ok e3
            change (if Kyg.sameNote b n = true then none else some (Kyg.Chord.mk n k (some b))) = some c at h
            by_cases z : Kyg.sameNote b n = true
            · rw [if_pos z] at h; cases h
            · rw [if_neg z] at h
              have h1 := Option.some.inj h
              rw [← h1]
              refine ⟨⟨hn, by show k ≤ 17; omega, fun b' hb' => ?_⟩, fun x hx => ?_⟩
              · have : b = b' := Option.some.inj hb'
                rw [← this]
                exact ⟨hb, by simpa using z⟩
              · rcases List.mem_append.mp hx with hx | hx
                · rcases List.mem_append.mp hx with hx | hx
                  · exact hp x hx
                  · exact kinds_no32 r k1 x hx
                · rcases List.mem_cons.mp hx with rfl | hx
                  · decide
                  · rw [List.append_nil] at hx
                    exact hp2 x hx
theorem allOf_len : ∀ {l : List By} {cs : List Kyg.Chord}, Kyg.allOf l = some cs → cs.length = l.length
  | [], cs, h => by rw [← Option.some.inj (show some [] = some cs from h)]; rfl
  | w :: l, cs, h => by
    unfold Kyg.allOf at h
    cases e1 : Kyg.chordIn w with
    | none => rw [e1] at h; cases h
    | some c =>
      rw [e1] at h
      cases e2 : Kyg.allOf l with
      | none => rw [e2] at h; cases h
      | some r =>
        rw [e2] at h
        rw [← Option.some.inj h, List.length_cons, List.length_cons, allOf_len e2]
/-- just one chord -/
theorem read_one (t : By) (c : Kyg.Chord) : Kyg.read t = some [c] ↔ Kyg.chordIn t = some c := by
  unfold Kyg.read
  cases t with
  | nil =>
    constructor
    · intro h
      change some [] = some [c] at h
      cases h
    · intro h
      cases h
  | cons b t =>
    rw [if_neg (by simp), split_spl]
    rcases cut_at 32 (b :: t) with hw | ⟨s, q, e, hs⟩
    · rw [show ([] : By).reverse = [] from rfl, spl_whole 32 _ _ hw, List.nil_append]
      show (match Kyg.chordIn (b :: t), some ([] : List Kyg.Chord) with
        | some c, some r => some (c :: r)
        | _, _ => none) = some [c] ↔ _
      cases Kyg.chordIn (b :: t) with
      | none =>
        constructor
        · intro h; cases h
        · intro h; cases h
      | some d =>
        constructor
        · intro h
          have := Option.some.inj h
          rw [(List.cons.inj this).1]
        · intro h
          rw [Option.some.inj h]
    · rw [show ([] : By).reverse = [] from rfl, e, spl_mark 32 q s [] hs]
      obtain ⟨a, r, ea⟩ := spl_some 32 q []
      constructor
      · intro h
        have := allOf_len h
        rw [ea] at this
        simp at this
      · intro h
        exact absurd rfl ((chordIn_ok h).2 32 (by simp))
def tnAns (t : By) : List Int := if 400 < t.length then [-22] else match Kyg.chordIn t with
  | none => [-71]
  | some c => ((Kyg.tones c).length : Int) :: (Kyg.tones c).map fun (k : Nat) => (k : Int)
def oneM {α : Type} (t : By) (f : Kyg.Chord → α) (z : α) : α := match Kyg.read t with
  | some [c] => f c
  | _ => z
theorem one_match {α : Type} (t : By) (f : Kyg.Chord → α) (z : α) : oneM t f z = (match Kyg.chordIn t with
    | some c => f c
    | none => z) := by
  unfold oneM
  cases e : Kyg.chordIn t with
  | some c => rw [(read_one t c).mpr e]
  | none =>
    match e2 : Kyg.read t with
    | none => rfl
    | some [] => rfl
    | some [c] => rw [(read_one t c).mp e2] at e; cases e
    | some (_ :: _ :: _) => rfl
theorem tones_eq (ns : List Int) : PyKyg.tones ns = tnAns (KygNeutral.natsOf ns) := by
  show (Kyg.answer (.tones (KygNeutral.natsOf ns))).value :: (Kyg.answer (.tones (KygNeutral.natsOf ns))).out = _
  generalize KygNeutral.natsOf ns = t
  have e : Kyg.answer (.tones t) = if 400 < t.length then Kyg.say (-22) else oneM t (fun c => (⟨((Kyg.tones c).length : Nat), Kyg.ints (Kyg.tones c)⟩ : Kyg.Ans)) (Kyg.say (-71)) := rfl
  rw [e, one_match t (fun c => (⟨((Kyg.tones c).length : Nat), Kyg.ints (Kyg.tones c)⟩ : Kyg.Ans)) (Kyg.say (-71))]
  unfold tnAns
  by_cases h : 400 < t.length
  · rw [if_pos h, if_pos h]; rfl
  · rw [if_neg h, if_neg h]
    cases Kyg.chordIn t <;> rfl
end Rd

set_option linter.all false
namespace Rd
theorem tone_lt (n : Kyg.Note) : Kyg.tone n < 12 := by
  unfold Kyg.tone
  omega
theorem tone_int (n : Kyg.Note) : ((Kyg.tone n : Nat) : Int) = ((Kyg.base n.letter : Nat) + n.alt) % 12 := by
  unfold Kyg.tone
  omega
theorem moved_letter (a h : Nat) (n : Kyg.Note) : (Kyg.movedNote a h n).letter = (n.letter + a) % 7 := rfl
theorem moved_alt (a h : Nat) (n : Kyg.Note) : (Kyg.movedNote a h n).alt = (((Kyg.tone n : Nat) : Int) + (h : Int) - ((Kyg.base ((n.letter + a) % 7) : Nat) : Int) - (-5)) % 12 + (-5) := by
  show ((((Kyg.tone n + h) % 12 : Nat) : Int) - (Kyg.base ((n.letter + a) % 7) : Int) + 5) % 12 - 5 = _
  omega
/-- there are signs for it -/
def canW (c : Kyg.Chord) : Bool := decide (-2 ≤ c.root.alt) && decide (c.root.alt ≤ 2) && (match c.bass with
  | none => true
  | some b => decide (-2 ≤ b.alt) && decide (b.alt ≤ 2))
theorem same_moved {a h : Nat} {b n : Kyg.Note} (hb : okN b) (hn : okN n) (e : Kyg.sameNote b n = false) : Kyg.sameNote (Kyg.movedNote a h b) (Kyg.movedNote a h n) = false := by
  rw [Bool.eq_false_iff]
  intro z
  rw [same_iff] at z
  have z1 : (b.letter + a) % 7 = (n.letter + a) % 7 := congrArg Prod.fst z
  have z2 : (Kyg.movedNote a h b).alt = (Kyg.movedNote a h n).alt := congrArg Prod.snd z
  have e1 : b.letter = n.letter := by
    have := hb.le
    have := hn.le
    omega
  rw [moved_alt, moved_alt, tone_int, tone_int, z1, e1] at z2
  have e2 : b.alt = n.alt := by
    have := hb.lo
    have := hb.hi
    have := hn.lo
    have := hn.hi
    omega
  have : Kyg.sameNote b n = true := by rw [same_iff, e1, e2]
  rw [e] at this
  cases this
theorem ok_moved {c : Kyg.Chord} (hc : okC c) (a h : Nat) : Kyg.ok (Kyg.moved a h c) = canW (Kyg.moved a h c) := by
  have h1 : (Kyg.moved a h c).root.letter ≤ 6 := by
    show (c.root.letter + a) % 7 ≤ 6
    omega
  have h2 : (Kyg.moved a h c).kind ≤ 17 := hc.kind
  unfold Kyg.ok canW Kyg.okNote
  rw [decide_eq_true h1, decide_eq_true h2, Bool.true_and, Bool.and_true]
  congr 1
  cases e : c.bass with
  | none =>
    have : (Kyg.moved a h c).bass = none := by show c.bass.map _ = none; rw [e]; rfl
    rw [this]
  | some b =>
    have e1 : (Kyg.moved a h c).bass = some (Kyg.movedNote a h b) := by show c.bass.map _ = _; rw [e]; rfl
    rw [e1]
    obtain ⟨hb, hs⟩ := hc.bass b e
    have h3 : (Kyg.movedNote a h b).letter ≤ 6 := by
      show (b.letter + a) % 7 ≤ 6
      omega
    have h4 : Kyg.sameNote (Kyg.movedNote a h b) (Kyg.moved a h c).root = false := same_moved hb hc.root hs
    show (decide ((Kyg.movedNote a h b).letter ≤ 6) && decide (-2 ≤ (Kyg.movedNote a h b).alt) && decide ((Kyg.movedNote a h b).alt ≤ 2) && !Kyg.sameNote (Kyg.movedNote a h b) (Kyg.moved a h c).root) = _
    rw [h4, decide_eq_true h3]
    simp
theorem allOf_ok : ∀ {l : List By} {cs : List Kyg.Chord}, Kyg.allOf l = some cs → ∀ c, c ∈ cs → okC c
  | [], cs, h, c, hc => by
    rw [← Option.some.inj (show some [] = some cs from h)] at hc
    cases hc
  | w :: l, cs, h, c, hc => by
    unfold Kyg.allOf at h
    cases e1 : Kyg.chordIn w with
    | none => rw [e1] at h; cases h
    | some d =>
      rw [e1] at h
      cases e2 : Kyg.allOf l with
      | none => rw [e2] at h; cases h
      | some r =>
        rw [e2] at h
        rw [← Option.some.inj h] at hc
        rcases List.mem_cons.mp hc with rfl | hc
        · exact (chordIn_ok e1).1
        · exact allOf_ok e2 c hc
theorem read_ok {t : By} {cs : List Kyg.Chord} (h : Kyg.read t = some cs) : ∀ c, c ∈ cs → okC c := by
  unfold Kyg.read at h
  cases t with
  | nil =>
    change some [] = some cs at h
    rw [← Option.some.inj h]
    intro c hc
    cases hc
  | cons b t =>
    rw [if_neg (by simp)] at h
    exact allOf_ok h
theorem all_ok {cs : List Kyg.Chord} (h : ∀ c, c ∈ cs → okC c) (a k : Nat) : (cs.map (Kyg.moved a k)).all Kyg.ok = (cs.map (Kyg.moved a k)).all canW := by
  induction cs with
  | nil => rfl
  | cons c cs ih =>
    rw [List.map_cons, List.all_cons, List.all_cons, ok_moved (h c (List.mem_cons_self ..)), ih fun x hx => h x (List.mem_cons_of_mem _ hx)]
/-! written -/
theorem noteText_T {n : Kyg.Note} (h : okN n) : Kyg.noteText n = lettersT.getD n.letter [] ++ altsT.getD (n.alt + 2).toNat [] := by
  obtain ⟨l, al⟩ := n
  obtain ⟨h1, h2, h3⟩ := h
  have e1 : l = 0 ∨ l = 1 ∨ l = 2 ∨ l = 3 ∨ l = 4 ∨ l = 5 ∨ l = 6 := by simp at h1; omega
  have e2 : al = -2 ∨ al = -1 ∨ al = 0 ∨ al = 1 ∨ al = 2 := by simp at h2 h3; omega
  rcases e1 with rfl | rfl | rfl | rfl | rfl | rfl | rfl <;> rcases e2 with rfl | rfl | rfl | rfl | rfl <;> rfl
theorem kindText_T (k : Nat) : Kyg.text (Kyg.names.getD k "") = kindsT.getD k [] := by
  rw [← kindsT_eq, List.getD_eq_getElem?_getD, List.getD_eq_getElem?_getD, List.getElem?_map]
  cases Kyg.names[k]? <;> rfl
theorem alts_short : ∀ k : Nat, (altsT.getD k []).length ≤ 2
  | 0 => by decide
  | 1 => by decide
  | 2 => by decide
  | 3 => by decide
  | 4 => by decide
  | k + 5 => by
    have : altsT.getD (k + 5) [] = [] := rfl
    rw [this]; exact Nat.zero_le _
theorem mem_getD {ls : List By} {k : Nat} : ls.getD k [] ∈ ls ∨ ls.getD k [] = [] := by
  rw [List.getD_eq_getElem?_getD]
  cases e : ls[k]? with
  | none => exact .inr rfl
  | some x => exact .inl (List.mem_of_getElem? e)
theorem kinds_short : ∀ x ∈ kindsT, x.length ≤ 5 := by decide
theorem letters_one : ∀ x ∈ lettersT, x.length ≤ 1 := by decide
theorem noteText_len {n : Kyg.Note} (h : okN n) : (Kyg.noteText n).length ≤ 3 := by
  rw [noteText_T h, List.length_append]
  have := alts_short (n.alt + 2).toNat
  have h2 : (lettersT.getD n.letter []).length ≤ 1 := by
    rcases mem_getD (ls := lettersT) (k := n.letter) with z | z
    · exact letters_one _ z
    · rw [z]; decide
  omega
/-- what may be written -/
structure okW (c : Kyg.Chord) : Prop where
  root : okN c.root
  kind : c.kind ≤ 17
  bass : ∀ b, c.bass = some b → okN b
theorem okW_moved {c : Kyg.Chord} (hc : okC c) {a h : Nat} (w : canW (Kyg.moved a h c) = true) : okW (Kyg.moved a h c) := by
  unfold canW at w
  rw [Bool.and_eq_true, Bool.and_eq_true] at w
  obtain ⟨⟨w1, w2⟩, w3⟩ := w
  refine ⟨⟨?_, of_decide_eq_true w1, of_decide_eq_true w2⟩, hc.kind, fun b hb => ?_⟩
  · show (c.root.letter + a) % 7 ≤ 6
    omega
  · rw [hb] at w3
    change (decide (-2 ≤ b.alt) && decide (b.alt ≤ 2)) = true at w3
    rw [Bool.and_eq_true] at w3
    refine ⟨?_, of_decide_eq_true w3.1, of_decide_eq_true w3.2⟩
    have : c.bass.map (Kyg.movedNote a h) = some b := hb
    cases e : c.bass with
    | none => rw [e] at this; cases this
    | some d =>
      rw [e] at this
      rw [← Option.some.inj this]
      show (d.letter + a) % 7 ≤ 6
      omega
theorem chordText_len {c : Kyg.Chord} (h : okW c) : (Kyg.chordText c).length ≤ 12 := by
  unfold Kyg.chordText
  rw [List.length_append, List.length_append, kindText_T]
  have h1 := noteText_len h.root
  have h2 : (kindsT.getD c.kind []).length ≤ 5 := by
    rcases mem_getD (ls := kindsT) (k := c.kind) with z | z
    · exact kinds_short _ z
    · rw [z]; decide
  generalize kindsT.getD c.kind [] = kt at h2
  cases e : c.bass with
  | none => simp; omega
  | some b =>
    have h3 := noteText_len (h.bass b e)
    simp; omega
theorem chordText_ne (c : Kyg.Chord) : Kyg.chordText c ≠ [] := by
  unfold Kyg.chordText Kyg.noteText
  simp
theorem joined_snoc : ∀ (l : List By) (x : By), Kyg.joined (l ++ [x]) = if l = [] then x else Kyg.joined l ++ 32 :: x
  | [], x => rfl
  | [w], x => rfl
  | w :: v :: l, x => by
    rw [if_neg (by simp)]
    have ih := joined_snoc (v :: l) x
    rw [if_neg (by simp)] at ih
    show w ++ 32 :: Kyg.joined (v :: l ++ [x]) = (w ++ 32 :: Kyg.joined (v :: l)) ++ 32 :: x
    rw [ih]
    simp
theorem joined_ne : ∀ {l : List By}, l ≠ [] → (∀ x, x ∈ l → x ≠ []) → Kyg.joined l ≠ []
  | [], h, _ => absurd rfl h
  | [w], _, h => h w (by simp)
  | w :: v :: l, _, _ => by
    show w ++ 32 :: Kyg.joined (v :: l) ≠ []
    simp
/-- one more chord is written -/
theorem wr_step {cs : List Kyg.Chord} {c : Kyg.Chord} : Kyg.written (cs ++ [c]) = (if 0 < (Kyg.written cs).length then Kyg.written cs ++ [32] else Kyg.written cs) ++ Kyg.chordText c := by
  unfold Kyg.written
  rw [List.map_append, List.map_cons, List.map_nil, joined_snoc]
  by_cases e : cs.map Kyg.chordText = []
  · rw [if_pos e, e]
    rfl
  · rw [if_neg e]
    have := joined_ne e fun x hx => by
      obtain ⟨d, _, rfl⟩ := List.mem_map.mp hx
      exact chordText_ne d
    rw [if_pos (List.length_pos_iff.mpr this)]
    simp
theorem wr_len {cs : List Kyg.Chord} (h : ∀ c, c ∈ cs → okW c) : (Kyg.written cs).length ≤ 13 * cs.length := by
  induction cs with
  | nil => exact Nat.zero_le _
  | cons c cs ih =>
    have h1 := ih fun x hx => h x (List.mem_cons_of_mem _ hx)
    have h2 := chordText_len (h c (List.mem_cons_self ..))
    unfold Kyg.written at h1 ⊢
    rw [List.map_cons, List.length_cons]
    cases e : cs.map Kyg.chordText with
    | nil => show (Kyg.chordText c).length ≤ _; omega
    | cons v l =>
      rw [e] at h1
      show (Kyg.chordText c ++ 32 :: Kyg.joined (v :: l)).length ≤ _
      rw [List.length_append, List.length_cons]
      omega
/-- what move is to answer -/
def mvAns (a h : Nat) (t : By) : List Int := if 400 < t.length ∨ 6 < a ∨ 11 < h then [-22] else match Kyg.read t with
  | none => [-71]
  | some l => if (l.map (Kyg.moved a h)).all canW then ((Kyg.written (l.map (Kyg.moved a h))).length : Int) :: (Kyg.written (l.map (Kyg.moved a h))).map (fun (k : Nat) => (k : Int)) else [-34]
theorem move_eq (a h : Int) (ns : List Int) : PyKyg.move a h ns = mvAns a.toNat h.toNat (KygNeutral.natsOf ns) := by
  show (Kyg.answer (.move (KygNeutral.natsOf ns) a.toNat h.toNat)).value :: (Kyg.answer (.move (KygNeutral.natsOf ns) a.toNat h.toNat)).out = _
  generalize KygNeutral.natsOf ns = t
  generalize a.toNat = a
  generalize h.toNat = h
  have e : Kyg.answer (.move t a h) = if 400 < t.length ∨ 6 < a ∨ 11 < h then Kyg.say (-22) else match Kyg.read t with
    | none => Kyg.say (-71)
    | some l => if (l.map (Kyg.moved a h)).all Kyg.ok then ⟨((Kyg.written (l.map (Kyg.moved a h))).length : Nat), Kyg.ints (Kyg.written (l.map (Kyg.moved a h)))⟩ else Kyg.say (-34) := rfl
  rw [e]
  unfold mvAns
  by_cases z : 400 < t.length ∨ 6 < a ∨ 11 < h
  · rw [if_pos z, if_pos z]; rfl
  · rw [if_neg z, if_neg z]
    cases e2 : Kyg.read t with
    | none => rfl
    | some l =>
      show Kyg.Ans.value (if (l.map (Kyg.moved a h)).all Kyg.ok = true then _ else _) :: Kyg.Ans.out (if (l.map (Kyg.moved a h)).all Kyg.ok = true then _ else _) = if (l.map (Kyg.moved a h)).all canW = true then _ else _
      rw [all_ok (read_ok e2)]
      by_cases y : (l.map (Kyg.moved a h)).all canW = true
      · rw [if_pos y, if_pos y]; rfl
      · rw [if_neg y, if_neg y]; rfl
end Rd

set_option linter.all false
namespace Rd
open Kyg (hasTone mayBe silent fretted lowest barred fingers key less bestOf sounds)
theorem low_lt (c : Kyg.Chord) : Kyg.low c < 12 := by
  unfold Kyg.low
  cases c.bass with
  | none => exact tone_lt _
  | some b => exact tone_lt _
theorem mem_tones (c : Kyg.Chord) (t : Nat) : t ∈ Kyg.tones c ↔ t < 12 ∧ hasTone c t = true := by
  unfold Kyg.tones
  rw [List.mem_filter, List.mem_range]
theorem has_iff (c : Kyg.Chord) {t : Nat} (h : t < 12) : (Kyg.tones c).contains t = hasTone c t := by
  rw [Bool.eq_iff_iff, List.contains_iff_mem, mem_tones]
  exact ⟨fun z => z.2, fun z => ⟨h, z⟩⟩
theorem tones_ne (c : Kyg.Chord) : Kyg.low c ∈ Kyg.tones c := by
  rw [mem_tones]
  refine ⟨low_lt c, ?_⟩
  unfold hasTone
  simp
/-! a string's numbers -/
def frets (p : Nat) : List Nat := [0, p + 1, p + 2, p + 3, p + 4]
def strNums (p pitch : Nat) (had : List Nat) : List Nat := 0 :: ((frets p).filter fun f => had.contains ((pitch + f) % 12)).map fun f => f + 1
theorem strNums_eq (c : Kyg.Chord) (p pitch : Nat) : strNums p pitch (Kyg.tones c) = mayBe c p pitch := by
  unfold strNums mayBe
  congr 2
  refine List.filter_congr fun f _ => ?_
  exact has_iff c (by omega)
theorem mayBe_len (c : Kyg.Chord) (p pitch : Nat) : (mayBe c p pitch).length ≤ 6 := by
  rw [← strNums_eq]
  unfold strNums
  rw [List.length_cons, List.length_map]
  have := List.length_filter_le (fun f => (Kyg.tones c).contains ((pitch + f) % 12)) (frets p)
  have e : (frets p).length = 5 := rfl
  omega
/-! grips -/
def few (g : Kyg.Grip) : Bool := decide (silent g ≤ 2)
def longer (fs : List Nat) (gs : List Kyg.Grip) : List Kyg.Grip := fs.flatMap fun f => gs.map fun g => g ++ [f]
def stepG (c : Kyg.Chord) (p : Nat) (gs : List Kyg.Grip) (x : Nat) : List Kyg.Grip := (longer (mayBe c p x) gs).filter few
def prG (c : Kyg.Chord) (p : Nat) (l : List Nat) : List Kyg.Grip := l.foldl (stepG c p) [[]]
def Fits (c : Kyg.Chord) (p : Nat) : Kyg.Grip → List Nat → Prop
  | [], [] => True
  | f :: g, x :: l => f ∈ mayBe c p x ∧ Fits c p g l
  | _, _ => False
theorem mem_grips (c : Kyg.Chord) (p : Nat) : ∀ (l : List Nat) (g : Kyg.Grip), g ∈ Kyg.grips c p l ↔ Fits c p g l
  | [], g => by
    show g ∈ [[]] ↔ _
    cases g with
    | nil => simp [Fits]
    | cons f g => simp [Fits]
  | x :: l, g => by
    show g ∈ (mayBe c p x).flatMap (fun f => (Kyg.grips c p l).map fun g => f :: g) ↔ _
    rw [List.mem_flatMap]
    constructor
    · rintro ⟨f, hf, hg⟩
      obtain ⟨h, hh, rfl⟩ := List.mem_map.mp hg
      exact ⟨hf, (mem_grips c p l h).mp hh⟩
    · intro h
      cases g with
      | nil => exact absurd h (by simp [Fits])
      | cons f g => exact ⟨f, h.1, List.mem_map.mpr ⟨g, (mem_grips c p l g).mpr h.2, rfl⟩⟩
theorem fits_len (c : Kyg.Chord) (p : Nat) : ∀ {g : Kyg.Grip} {l : List Nat}, Fits c p g l → g.length = l.length
  | [], [], _ => rfl
  | f :: g, x :: l, h => by rw [List.length_cons, List.length_cons, fits_len c p h.2]
  | [], _ :: _, h => h.elim
  | _ :: _, [], h => h.elim
theorem silent_app (g h : Kyg.Grip) : silent (g ++ h) = silent g + silent h := by
  unfold silent
  rw [List.filter_append, List.length_append]
theorem mem_fold (c : Kyg.Chord) (p : Nat) : ∀ (l : List Nat) (gs : List Kyg.Grip), (∀ h, h ∈ gs → silent h ≤ 2) → ∀ g, g ∈ l.foldl (stepG c p) gs ↔ ∃ h r, h ∈ gs ∧ g = h ++ r ∧ Fits c p r l ∧ silent g ≤ 2
  | [], gs, H, g => by
    show g ∈ gs ↔ _
    constructor
    · intro hg
      exact ⟨g, [], hg, by simp, trivial, H g hg⟩
    · rintro ⟨h, r, hh, rfl, hr, _⟩
      cases r with
      | nil => simpa using hh
      | cons a r => exact hr.elim
  | x :: l, gs, H, g => by
    show g ∈ l.foldl (stepG c p) (stepG c p gs x) ↔ _
    have hm : ∀ h, h ∈ stepG c p gs x ↔ ∃ k f, k ∈ gs ∧ f ∈ mayBe c p x ∧ h = k ++ [f] ∧ silent h ≤ 2 := by
      intro h
      unfold stepG longer few
      rw [List.mem_filter, List.mem_flatMap]
      constructor
      · rintro ⟨⟨f, hf, hm⟩, z⟩
        obtain ⟨k, hk, rfl⟩ := List.mem_map.mp hm
        exact ⟨k, f, hk, hf, rfl, of_decide_eq_true z⟩
      · rintro ⟨k, f, hk, hf, rfl, z⟩
        exact ⟨⟨f, hf, List.mem_map.mpr ⟨k, hk, rfl⟩⟩, decide_eq_true z⟩
    rw [mem_fold c p l _ (fun h hh => by obtain ⟨_, _, _, _, _, z⟩ := (hm h).mp hh; exact z)]
    constructor
    · rintro ⟨h, r, hh, rfl, hr, z⟩
      obtain ⟨k, f, hk, hf, rfl, _⟩ := (hm h).mp hh
      exact ⟨k, f :: r, hk, by simp, ⟨hf, hr⟩, z⟩
    · rintro ⟨h, r, hh, rfl, hr, z⟩
      cases r with
      | nil => exact hr.elim
      | cons f r =>
        refine ⟨h ++ [f], r, (hm _).mpr ⟨h, f, hh, hr.1, rfl, ?_⟩, by simp, hr.2, z⟩
        rw [show h ++ f :: r = (h ++ [f]) ++ r by simp, silent_app] at z
        omega
theorem mem_prG (c : Kyg.Chord) (p : Nat) (l : List Nat) (g : Kyg.Grip) : g ∈ prG c p l ↔ Fits c p g l ∧ silent g ≤ 2 := by
  unfold prG
  rw [mem_fold c p l [[]] (fun h hh => by rw [List.mem_singleton.mp hh]; decide)]
  constructor
  · rintro ⟨h, r, hh, rfl, hr, z⟩
    rw [List.mem_singleton.mp hh] at z ⊢
    exact ⟨hr, z⟩
  · rintro ⟨h1, h2⟩
    exact ⟨[], g, by simp, rfl, h1, h2⟩
theorem longer_len (fs : List Nat) (gs : List Kyg.Grip) : (longer fs gs).length = fs.length * gs.length := by
  unfold longer
  induction fs with
  | nil => simp
  | cons f fs ih =>
    rw [List.flatMap_cons, List.length_append, ih, List.length_map, List.length_cons, Nat.succ_mul, Nat.add_comm]
theorem stepG_len (c : Kyg.Chord) (p : Nat) (gs : List Kyg.Grip) (x : Nat) : (stepG c p gs x).length ≤ 6 * gs.length := by
  unfold stepG
  refine Nat.le_trans (List.length_filter_le _ _) ?_
  rw [longer_len]
  exact Nat.mul_le_mul_right _ (mayBe_len c p x)
theorem fold_len (c : Kyg.Chord) (p : Nat) : ∀ (l : List Nat) (gs : List Kyg.Grip), (l.foldl (stepG c p) gs).length ≤ 6 ^ l.length * gs.length
  | [], gs => by show gs.length ≤ _; simp
  | x :: l, gs => by
    show (l.foldl (stepG c p) (stepG c p gs x)).length ≤ _
    refine Nat.le_trans (fold_len c p l _) ?_
    rw [List.length_cons, Nat.pow_succ, Nat.mul_assoc]
    exact Nat.mul_le_mul_left _ (stepG_len c p gs x)
theorem prG_len (c : Kyg.Chord) (p : Nat) {l : List Nat} (h : l.length ≤ 6) : (prG c p l).length ≤ 46656 := by
  have := fold_len c p l [[]]
  have h2 : 6 ^ l.length ≤ 6 ^ 6 := Nat.pow_le_pow_right (by decide) h
  unfold prG
  simp at this
  omega
/-! the least of some numbers -/
theorem lowest_spec : ∀ {l : List Nat} {m : Nat}, m ∈ l → (∀ y, y ∈ l → m ≤ y) → lowest l = some m
  | [], m, h, _ => by cases h
  | x :: l, m, h, hl => by
    show (match lowest l with
      | none => some x
      | some y => some (min x y)) = some m
    cases l with
    | nil =>
      have : m = x := by simpa using h
      rw [this]
      rfl
    | cons z l =>
      -- the least of the rest
      have ex : ∀ l : List Nat, l ≠ [] → ∃ k, lowest l = some k ∧ k ∈ l ∧ ∀ y, y ∈ l → k ≤ y := by
        intro l
        induction l with
        | nil => intro h; exact absurd rfl h
        | cons a l ih =>
          intro _
          cases l with
          | nil => exact ⟨a, rfl, by simp, by simp⟩
          | cons b l =>
            obtain ⟨k, h1, h2, h3⟩ := ih (by simp)
            refine ⟨min a k, ?_, ?_, ?_⟩
            · show (match lowest (b :: l) with
                | none => some a
                | some y => some (min a y)) = _
              rw [h1]
            · by_cases z : a ≤ k
              · rw [Nat.min_eq_left z]; simp
              · rw [Nat.min_eq_right (by omega)]; exact List.mem_cons_of_mem _ h2
            · intro y hy
              rcases List.mem_cons.mp hy with rfl | hy
              · exact Nat.min_le_left _ _
              · exact Nat.le_trans (Nat.min_le_right _ _) (h3 y hy)
      obtain ⟨k, h1, h2, h3⟩ := ex (z :: l) (by simp)
      rw [h1]
      have mk : m ≤ k := hl k (List.mem_cons_of_mem _ h2)
      have mx : m ≤ x := hl x (by simp)
      rcases List.mem_cons.mp h with rfl | h
      · show some (min m k) = some m
        rw [Nat.min_eq_left mk]
      · have : k ≤ m := h3 m h
        have e : k = m := by omega
        show some (min x k) = some m
        rw [e, Nat.min_eq_right mx]
theorem lowest_nil {l : List Nat} (h : lowest l = none) : l = [] := by
  cases l with
  | nil => rfl
  | cons x l =>
    change (match lowest l with
      | none => some x
      | some y => some (min x y)) = none at h
    cases e : lowest l <;> rw [e] at h <;> cases h
/-! fingers -/
def plcs (f : Nat) : Nat → List Nat → List Nat
  | _, [] => []
  | i, x :: l => if x = f then i :: plcs f (i + 1) l else plcs f (i + 1) l
theorem plcs_app (f : Nat) : ∀ (i : Nat) (l m : List Nat), plcs f i (l ++ m) = plcs f i l ++ plcs f (i + l.length) m
  | i, [], m => by simp [plcs]
  | i, x :: l, m => by
    have ih := plcs_app f (i + 1) l m
    have e : i + 1 + l.length = i + (x :: l).length := by rw [List.length_cons]; omega
    rw [e] at ih
    show (if x = f then i :: plcs f (i + 1) (l ++ m) else plcs f (i + 1) (l ++ m)) = (if x = f then i :: plcs f (i + 1) l else plcs f (i + 1) l) ++ _
    rw [ih]
    by_cases z : x = f
    · rw [if_pos z, if_pos z]; rfl
    · rw [if_neg z, if_neg z]
theorem plcs_no (f : Nat) : ∀ (i : Nat) (l : List Nat), f ∉ l → plcs f i l = []
  | i, [], _ => rfl
  | i, x :: l, h => by
    show (if x = f then _ else _) = _
    rw [if_neg (fun z => h (by rw [z]; simp)), plcs_no f (i + 1) l fun z => h (List.mem_cons_of_mem _ z)]
theorem plcs_len (f : Nat) : ∀ (i : Nat) (l : List Nat), (plcs f i l).length = (l.filter fun x => x == f).length
  | i, [] => rfl
  | i, x :: l => by
    show (if x = f then i :: plcs f (i + 1) l else plcs f (i + 1) l).length = _
    rw [List.filter_cons]
    by_cases z : x = f
    · rw [if_pos z, if_pos (by simp [z]), List.length_cons, List.length_cons, plcs_len f (i + 1) l]
    · rw [if_neg z, if_neg (by simp [z]), plcs_len f (i + 1) l]
theorem first_at {f : Nat} : ∀ {l : List Nat}, f ∈ l → ∃ p q, l = p ++ f :: q ∧ f ∉ p
  | [], h => by cases h
  | x :: l, h => by
    by_cases z : x = f
    · exact ⟨[], l, by rw [z]; rfl, by simp⟩
    · rcases List.mem_cons.mp h with e | h
      · exact absurd e.symm z
      · obtain ⟨p, q, rfl, hp⟩ := first_at h
        exact ⟨x :: p, q, rfl, fun y => by rcases List.mem_cons.mp y with e | y; exact z e.symm; exact hp y⟩
theorem last_at {f : Nat} {l : List Nat} (h : f ∈ l) : ∃ u v, l = u ++ f :: v ∧ f ∉ v := by
  obtain ⟨p, q, e, hp⟩ := first_at (l := l.reverse) (f := f) (by simpa using h)
  refine ⟨q.reverse, p.reverse, ?_, by simpa using hp⟩
  have := congrArg List.reverse e
  rw [List.reverse_reverse] at this
  rw [this]
  simp
theorem dropWhile_first {f : Nat} : ∀ {p q : List Nat}, f ∉ p → (p ++ f :: q).dropWhile (fun x => x != f) = f :: q
  | [], q, _ => by simp
  | x :: p, q, h => by
    have hx : x ≠ f := fun z => h (by rw [z]; simp)
    show (x :: (p ++ f :: q)).dropWhile _ = _
    rw [List.dropWhile_cons, if_pos (by simpa using hx)]
    exact dropWhile_first fun z => h (List.mem_cons_of_mem _ z)
/-- the program's count of fingers: frets, where the lowest are -/
theorem bar_iff {g : Kyg.Grip} {f a b : Nat} {ps : List Nat} (hf : f ∈ g) (h2 : 2 ≤ f) (hp : plcs f 0 g = ps) (ha : ps.head? = some a) (hb : ps.getLast? = some b) :
    (((g.dropWhile fun x => x != f).reverse.dropWhile fun x => x != f).contains 1) = ((g.take b).drop a).contains 1 := by
  obtain ⟨p, q, e1, hpn⟩ := first_at hf
  obtain ⟨u, v, e2, hv⟩ := last_at hf
  have ea : a = p.length := by
    rw [e1, plcs_app, plcs_no f 0 p hpn, List.nil_append] at hp
    rw [← hp] at ha
    change (if f = f then _ else _ : List Nat).head? = _ at ha
    rw [if_pos rfl] at ha
    have := Option.some.inj ha
    omega
  have eb : b = u.length := by
    rw [e2, plcs_app] at hp
    rw [← hp] at hb
    have e3 : plcs f (0 + u.length) (f :: v) = [u.length] := by
      show (if f = f then _ else _ : List Nat) = _
      rw [if_pos rfl, plcs_no f _ v hv, Nat.zero_add]
    rw [e3, List.getLast?_append] at hb
    simp at hb
    omega
  have hab : p.length ≤ u.length := by
    by_cases z : p.length ≤ u.length
    · exact z
    · exfalso
      have h1 : g[u.length]? = some f := by rw [e2]; simp
      rw [e1, List.getElem?_append_left (by omega)] at h1
      exact hpn (List.mem_of_getElem? h1)
  have e4 : f :: q = u.drop p.length ++ f :: v := by
    have h1 : g.drop p.length = f :: q := by rw [e1]; simp
    have h3 : g.drop p.length = u.drop p.length ++ f :: v := by
      rw [e2, List.drop_append_of_le_length hab]
    rw [← h1, h3]
  have e5 : g.take b = u := by rw [eb, e2]; simp
  rw [e5, ea]
  rw [show g.dropWhile (fun x => x != f) = f :: q by rw [e1]; exact dropWhile_first hpn, e4, List.reverse_append, List.reverse_cons, List.append_assoc,
    show ([f] ++ (u.drop p.length).reverse) = f :: (u.drop p.length).reverse from rfl, dropWhile_first (by simpa using hv)]
  rw [Bool.eq_iff_iff, List.contains_iff_mem, List.contains_iff_mem]
  simp
  omega
theorem filter_two (p : Nat → Bool) (l : List Nat) : (l.filter p).length + (l.filter fun x => !p x).length = l.length := by
  induction l with
  | nil => rfl
  | cons x l ih =>
    rw [List.filter_cons, List.filter_cons]
    cases h : p x
    · simp [h]; omega
    · simp [h]; omega
theorem fretted_of {g : Kyg.Grip} {f : Nat} (h2 : 2 ≤ f) : ((fretted g).filter fun x => x == f) = g.filter fun x => x == f := by
  unfold fretted
  rw [List.filter_filter]
  refine List.filter_congr fun x _ => ?_
  rw [Bool.eq_iff_iff]
  simp
  omega
theorem fingers_nil {g : Kyg.Grip} (h : fretted g = []) : fingers g = 0 := by
  unfold fingers
  rw [h]
  rfl
theorem fingers_some {g : Kyg.Grip} {f a b : Nat} {ps : List Nat} (hf : f ∈ fretted g) (hl : ∀ y, y ∈ fretted g → f ≤ y) (hp : plcs f 0 g = ps) (ha : ps.head? = some a) (hb : ps.getLast? = some b) :
    fingers g = if ((g.take b).drop a).contains 1 = true then (fretted g).length else (fretted g).length - ps.length + 1 := by
  have hm := List.mem_filter.mp (show f ∈ g.filter _ from hf)
  have h2 : 2 ≤ f := of_decide_eq_true hm.2
  have hlow := lowest_spec hf hl
  have hbar : barred g = !((g.take b).drop a).contains 1 := by
    unfold barred
    rw [hlow]
    show (!_) = _
    rw [bar_iff hm.1 h2 hp ha hb]
  have hlen : ps.length = ((fretted g).filter fun x => x == f).length := by rw [← hp, plcs_len, fretted_of h2]
  have htwo := filter_two (fun x => x == f) (fretted g)
  unfold fingers
  rw [hlow]
  show (if barred g = true then ((fretted g).filter fun x => x != f).length + 1 else (fretted g).length) = _
  rw [hbar]
  have e : ((fretted g).filter fun x => x != f) = (fretted g).filter fun x => !(x == f) := rfl
  rw [e]
  cases ((g.take b).drop a).contains 1
  · rw [if_pos (by rfl), if_neg (by simp)]
    omega
  · rw [if_neg (by simp), if_pos (by rfl)]
theorem fretted_le (g : Kyg.Grip) : (fretted g).length ≤ g.length := List.length_filter_le _ _
/-! good -/
theorem sounds_cons (x f : Nat) (l : List Nat) (g : Kyg.Grip) : sounds (x :: l) (f :: g) = if f = 0 then sounds l g else (x + f - 1) :: sounds l g := by
  unfold sounds
  rw [List.zip_cons_cons, List.filterMap_cons]
  by_cases z : f = 0
  · simp [z]
  · simp [z]
theorem sounds_has (c : Kyg.Chord) (p : Nat) : ∀ {g : Kyg.Grip} {l : List Nat}, Fits c p g l → ∀ x, x ∈ sounds l g → x % 12 ∈ Kyg.tones c
  | [], [], _, x, h => by cases h
  | [], _ :: _, h, _, _ => h.elim
  | _ :: _, [], h, _, _ => h.elim
  | f :: g, y :: l, h, x, hx => by
    rw [sounds_cons] at hx
    by_cases z : f = 0
    · rw [if_pos z] at hx
      exact sounds_has c p h.2 x hx
    · rw [if_neg z] at hx
      rcases List.mem_cons.mp hx with rfl | hx
      · have h1 := h.1
        unfold mayBe at h1
        rcases List.mem_cons.mp h1 with e | h1
        · exact absurd e z
        · obtain ⟨k, hk, rfl⟩ := List.mem_map.mp h1
          have hk2 := (List.mem_filter.mp hk).2
          rw [mem_tones]
          refine ⟨by omega, ?_⟩
          rw [show y + (k + 1) - 1 = y + k by omega]
          exact hk2
      · exact sounds_has c p h.2 x hx
/-- each tone sounds -/
def allHeard (c : Kyg.Chord) (s : List Nat) : Bool := (Kyg.tones c).all fun t => s.any fun x => x % 12 == t
theorem heard_iff (c : Kyg.Chord) (s : List Nat) (h : ∀ x, x ∈ s → x % 12 ∈ Kyg.tones c) : allHeard c s = true ↔ ∀ t, t ∈ s.map (fun x => x % 12) ↔ t ∈ Kyg.tones c := by
  unfold allHeard
  rw [List.all_eq_true]
  constructor
  · intro z t
    constructor
    · intro ht
      obtain ⟨x, hx, rfl⟩ := List.mem_map.mp ht
      exact h x hx
    · intro ht
      obtain ⟨x, hx, e⟩ := List.any_eq_true.mp (z t ht)
      exact List.mem_map.mpr ⟨x, hx, by simpa using e⟩
  · intro z t ht
    obtain ⟨x, hx, e⟩ := List.mem_map.mp ((z t).mpr ht)
    exact List.any_eq_true.mpr ⟨x, hx, by simpa using e⟩
theorem heard_ne {c : Kyg.Chord} {s : List Nat} (h : allHeard c s = true) : s ≠ [] := by
  intro e
  unfold allHeard at h
  rw [List.all_eq_true, e] at h
  have := h _ (tones_ne c)
  simp at this
/-- the program's test -/
def isGood (c : Kyg.Chord) (tuning : List Nat) (g : Kyg.Grip) : Bool := allHeard c (sounds tuning g) && (match lowest (sounds tuning g) with
  | some x => x % 12 == Kyg.low c
  | none => false) && decide (fingers g ≤ 4)
theorem good_iff {c : Kyg.Chord} {tuning : List Nat} {g : Kyg.Grip} (h : silent g ≤ 2) : Kyg.good c tuning g = isGood c tuning g := by
  show (decide (silent g ≤ 2) && decide (fingers g ≤ 4) && allHeard c (sounds tuning g) && _) = (allHeard c (sounds tuning g) && _ && decide (fingers g ≤ 4))
  rw [decide_eq_true h, Bool.true_and, Bool.and_comm (decide (fingers g ≤ 4)), Bool.and_assoc, Bool.and_assoc, Bool.and_comm (decide (fingers g ≤ 4))]
  try rfl
theorem mem_good (c : Kyg.Chord) (p : Nat) (l : List Nat) (g : Kyg.Grip) : g ∈ (prG c p l).filter (isGood c l) ↔ g ∈ (Kyg.grips c p l).filter (Kyg.good c l) := by
  rw [List.mem_filter, List.mem_filter, mem_prG, mem_grips]
  constructor
  · rintro ⟨⟨h1, h2⟩, h3⟩
    exact ⟨h1, by rw [good_iff h2]; exact h3⟩
  · rintro ⟨h1, h2⟩
    have h3 : silent g ≤ 2 := by
      have z : (decide (silent g ≤ 2) && decide (fingers g ≤ 4) && allHeard c (sounds l g) && (match lowest (sounds l g) with
        | some x => x % 12 == Kyg.low c
        | none => false)) = true := h2
      rw [Bool.and_eq_true, Bool.and_eq_true, Bool.and_eq_true] at z
      exact of_decide_eq_true z.1.1.1
    exact ⟨⟨h1, h3⟩, by rw [← good_iff h3]; exact h2⟩
/-! the best -/
theorem less_cons (a b : Nat) (l m : List Nat) : less (a :: l) (b :: m) = (decide (a < b) || (a == b && less l m)) := rfl
theorem less_neg : ∀ {a b d : List Nat}, a.length = b.length → b.length = d.length → less a b = false → less b d = false → less a d = false
  | [], _, _, _, _, _, _ => rfl
  | x :: a, [], _, h, _, _, _ => by cases h
  | x :: a, y :: b, [], _, h, _, _ => by cases h
  | x :: a, y :: b, z :: d, h1, h2, h3, h4 => by
    rw [less_cons] at h3 h4 ⊢
    rw [Bool.or_eq_false_iff] at h3 h4 ⊢
    have n1 : ¬ x < y := of_decide_eq_false h3.1
    have n2 : ¬ y < z := of_decide_eq_false h4.1
    refine ⟨decide_eq_false (by omega), ?_⟩
    by_cases e : x = z
    · have e1 : x = y := by omega
      have e2 : y = z := by omega
      have t1 := h3.2
      have t2 := h4.2
      simp [e1] at t1
      simp [e2] at t2
      simp [e, less_neg (Nat.succ.inj h1) (Nat.succ.inj h2) t1 t2]
    · simp [e]
theorem less_anti : ∀ {a b : List Nat}, a.length = b.length → less a b = false → less b a = false → a = b
  | [], [], _, _, _ => rfl
  | [], _ :: _, h, _, _ => by cases h
  | _ :: _, [], h, _, _ => by cases h
  | x :: a, y :: b, h, h1, h2 => by
    rw [less_cons, Bool.or_eq_false_iff] at h1 h2
    have n1 : ¬ x < y := of_decide_eq_false h1.1
    have n2 : ¬ y < x := of_decide_eq_false h2.1
    have e : x = y := by omega
    subst e
    have t1 := h1.2
    have t2 := h2.2
    simp at t1 t2
    rw [less_anti (Nat.succ.inj h) t1 t2]
theorem less_asym : ∀ {a b : List Nat}, less a b = true → less b a = false
  | [], b, h => by cases b <;> cases h
  | _ :: _, [], h => by cases h
  | x :: a, y :: b, h => by
    rw [less_cons, Bool.or_eq_true] at h
    rw [less_cons, Bool.or_eq_false_iff]
    rcases h with h | h
    · have : x < y := of_decide_eq_true h
      refine ⟨decide_eq_false (by omega), ?_⟩
      have : y ≠ x := by omega
      simp [this]
    · rw [Bool.and_eq_true] at h
      have e : x = y := by simpa using h.1
      subst e
      refine ⟨decide_eq_false (by omega), ?_⟩
      simp [less_asym h.2]
theorem less_self (a : List Nat) : less a a = false := by
  cases h : less a a with
  | false => rfl
  | true => rw [less_asym h] at h; cases h
theorem key_len (g : Kyg.Grip) : (key g).length = g.length + 3 := rfl
theorem bestOf_spec {n : Nat} : ∀ {l : List Kyg.Grip}, (∀ g, g ∈ l → g.length = n) → (bestOf l = none → l = []) ∧ ∀ g, bestOf l = some g → g ∈ l ∧ ∀ y, y ∈ l → less (key y) (key g) = false
  | [], _ => ⟨fun _ => rfl, fun g h => by cases h⟩
  | a :: l, H => by
    obtain ⟨i1, i2⟩ := bestOf_spec (l := l) fun g hg => H g (List.mem_cons_of_mem _ hg)
    have e : bestOf (a :: l) = (match bestOf l with
      | none => some a
      | some h => if less (key h) (key a) then some h else some a) := rfl
    rw [e]
    cases eb : bestOf l with
    | none =>
      refine ⟨fun h => (by cases h), fun g hg => ?_⟩
      have : a = g := Option.some.inj hg
      subst this
      rw [i1 eb]
      exact ⟨by simp, fun y hy => by rw [List.mem_singleton.mp hy]; exact less_self _⟩
    | some h =>
      obtain ⟨h1, h2⟩ := i2 h eb
      have la := H a (by simp)
      have lh := H h (List.mem_cons_of_mem _ h1)
      show ((if less (key h) (key a) = true then some h else some a) = none → _) ∧ ∀ g, (if less (key h) (key a) = true then some h else some a) = some g → _
      by_cases z : less (key h) (key a) = true
      · rw [if_pos z]
        refine ⟨fun h => (by cases h), fun g hg => ?_⟩
        have : h = g := Option.some.inj hg
        subst this
        refine ⟨List.mem_cons_of_mem _ h1, fun y hy => ?_⟩
        rcases List.mem_cons.mp hy with rfl | hy
        · exact less_asym z
        · exact h2 y hy
      · rw [if_neg z]
        refine ⟨fun h => (by cases h), fun g hg => ?_⟩
        have : a = g := Option.some.inj hg
        subst this
        refine ⟨by simp, fun y hy => ?_⟩
        rcases List.mem_cons.mp hy with rfl | hy
        · exact less_self _
        · have ly := H y (List.mem_cons_of_mem _ hy)
          exact less_neg (by rw [key_len, key_len, ly, lh]) (by rw [key_len, key_len, lh, la]) (h2 y hy) (by simpa using z)
/-- a least one is the best -/
theorem best_is {n : Nat} {l m : List Kyg.Grip} (H : ∀ g, g ∈ l → g.length = n) (e : ∀ g, g ∈ m ↔ g ∈ l) {r : Kyg.Grip} (hr : r ∈ m) (hl : ∀ y, y ∈ m → less (key y) (key r) = false) : bestOf l = some r := by
  obtain ⟨b1, b2⟩ := bestOf_spec H
  cases eb : bestOf l with
  | none =>
    have := (e r).mp hr
    rw [b1 eb] at this
    cases this
  | some g =>
    obtain ⟨g1, g2⟩ := b2 g eb
    have lr := H r ((e r).mp hr)
    have lg := H g g1
    have k := less_anti (a := key g) (b := key r) (by rw [key_len, key_len, lr, lg]) (hl g ((e g).mpr g1)) (g2 r ((e r).mp hr))
    have : g = r := by
      have : (key g).drop 3 = (key r).drop 3 := by rw [k]
      exact this
    rw [this]
theorem best_none {n : Nat} {l m : List Kyg.Grip} (H : ∀ g, g ∈ l → g.length = n) (e : ∀ g, g ∈ m ↔ g ∈ l) (hm : m = []) : bestOf l = none := by
  cases eb : bestOf l with
  | none => rfl
  | some g =>
    have := ((bestOf_spec H).2 g eb).1
    rw [← e, hm] at this
    cases this
theorem grips_len {c : Kyg.Chord} {p : Nat} {l : List Nat} : ∀ g, g ∈ (Kyg.grips c p l).filter (Kyg.good c l) → g.length = l.length := fun g hg =>
  fits_len c p ((mem_grips c p l g).mp (List.mem_filter.mp hg).1)
/-- what the best at a position is -/
def bestAt (c : Kyg.Chord) (l : List Nat) (p : Nat) : Option Kyg.Grip := bestOf ((Kyg.grips c p l).filter (Kyg.good c l))
theorem bestAt_none {c : Kyg.Chord} {l : List Nat} {p : Nat} (h : (prG c p l).filter (isGood c l) = []) : bestAt c l p = none := best_none grips_len (mem_good c p l) h
theorem bestAt_some {c : Kyg.Chord} {l : List Nat} {p : Nat} {r : Kyg.Grip} (h : r ∈ (prG c p l).filter (isGood c l)) (hl : ∀ y, y ∈ (prG c p l).filter (isGood c l) → less (key y) (key r) = false) : bestAt c l p = some r := best_is grips_len (mem_good c p l) h hl
theorem gripFrom_succ (c : Kyg.Chord) (l : List Nat) (k p : Nat) : Kyg.gripFrom c l (k + 1) p = (match bestAt c l p with
  | some g => some (p, g)
  | none => Kyg.gripFrom c l k (p + 1)) := rfl
/-- what grip is to answer -/
def grAns (t u : By) : List Int := if 400 < t.length ∨ Kyg.okTuning u = false then [-22] else match Kyg.chordIn t with
  | none => [-71]
  | some c => match Kyg.grip c u with
    | none => [-61]
    | some (p, g) => ((p : Nat) : Int) :: g.map fun (k : Nat) => (k : Int)
theorem grAns_no {t u : By} {c : Kyg.Chord} (h : ¬ (400 < t.length ∨ Kyg.okTuning u = false)) (hc : Kyg.chordIn t = some c) (hg : Kyg.grip c u = none) : grAns t u = [-61] := by
  unfold grAns
  rw [if_neg h, hc]
  simp only [hg]
theorem grAns_yes {t u : By} {c : Kyg.Chord} {p : Nat} {g : Kyg.Grip} (h : ¬ (400 < t.length ∨ Kyg.okTuning u = false)) (hc : Kyg.chordIn t = some c) (hg : Kyg.grip c u = some (p, g)) : grAns t u = ((p : Nat) : Int) :: g.map fun (k : Nat) => (k : Int) := by
  unfold grAns
  rw [if_neg h, hc]
  simp only [hg]
def gA (u : By) (c : Kyg.Chord) : Kyg.Ans := match Kyg.grip c u with
  | none => Kyg.say (-61)
  | some (p, g) => ⟨(p : Nat), Kyg.ints g⟩
theorem grip_eq (ns ms : List Int) : PyKyg.grip ns ms = grAns (KygNeutral.natsOf ns) (KygNeutral.natsOf ms) := by
  show (Kyg.answer (.grip (KygNeutral.natsOf ns) (KygNeutral.natsOf ms))).value :: (Kyg.answer (.grip (KygNeutral.natsOf ns) (KygNeutral.natsOf ms))).out = _
  generalize KygNeutral.natsOf ns = t
  generalize KygNeutral.natsOf ms = u
  have e : Kyg.answer (.grip t u) = if 400 < t.length ∨ Kyg.okTuning u = false then Kyg.say (-22) else oneM t (gA u) (Kyg.say (-71)) := rfl
  rw [e, one_match t (gA u) (Kyg.say (-71))]
  unfold grAns
  by_cases h : 400 < t.length ∨ Kyg.okTuning u = false
  · rw [if_pos h, if_pos h]; rfl
  · rw [if_neg h, if_neg h]
    cases Kyg.chordIn t with
    | none => rfl
    | some c =>
      show (gA u c).value :: (gA u c).out = _
      unfold gA
      simp only
      cases Kyg.grip c u with
      | none => rfl
      | some x => rfl
end Rd

set_option Elab.async false
set_option linter.all false
set_option maxRecDepth 100000
set_option maxHeartbeats 2000000
/-! a note and a chord as values; note_tone -/
namespace Cg
open PySem PySem.Spec PyProof.Rows L2 Rd
/-- a note, a chord as values -/
def nV (n : Kyg.Note) : List V := [.int ((n.letter : Nat) : Int), .int n.alt]
def cV (c : Kyg.Chord) : List V := (Kyg.numbers c).map V.int
theorem cV_none (r : Kyg.Note) (k : Nat) : cV ⟨r, k, none⟩ = [.int ((r.letter : Nat) : Int), .int r.alt, .int ((k : Nat) : Int), .int 7, .int 0] := rfl
theorem cV_some (r : Kyg.Note) (k : Nat) (b : Kyg.Note) : cV ⟨r, k, some b⟩ = [.int ((r.letter : Nat) : Int), .int r.alt, .int ((k : Nat) : Int), .int ((b.letter : Nat) : Int), .int b.alt] := rfl
theorem cut5_lo (a b c d e : V) : cutV [a, b, c, d, e] none (some 2) = [a, b] := rfl
theorem cut5_hi (a b c d e : V) : cutV [a, b, c, d, e] (some 3) none = [d, e] := rfl
theorem cut_root (c : Kyg.Chord) : cutV (cV c) none (some 2) = nV c.root := by
  obtain ⟨r, k, b⟩ := c
  cases b with
  | none => exact cut5_lo ..
  | some b => exact cut5_lo ..
theorem cut_bass {c : Kyg.Chord} {b : Kyg.Note} (h : c.bass = some b) : cutV (cV c) (some 3) none = nV b := by
  obtain ⟨r, k, b'⟩ := c
  have e : b' = some b := h
  subst e
  exact cut5_hi ..
theorem at3_none {c : Kyg.Chord} (h : c.bass = none) : atI (cV c) 3 = some (.int 7) := by
  obtain ⟨r, k, b'⟩ := c
  have e : b' = none := h
  subst e
  exact at_of (j := 3) rfl rfl
theorem at3_some {c : Kyg.Chord} {b : Kyg.Note} (h : c.bass = some b) : atI (cV c) 3 = some (.int ((b.letter : Nat) : Int)) := by
  obtain ⟨r, k, b'⟩ := c
  have e : b' = some b := h
  subst e
  exact at_of (j := 3) rfl rfl
theorem at2 (c : Kyg.Chord) : atI (cV c) 2 = some (.int ((c.kind : Nat) : Int)) := by
  obtain ⟨r, k, b'⟩ := c
  cases b' with
  | none => exact at_of (j := 2) rfl rfl
  | some b => exact at_of (j := 2) rfl rfl
structure TxtT (K : PySem.W.Frag) (mg : Str → Option Value) : Prop where
  all12 : ∃ t, mg "ALL_TONES" = some (.int 12 t)
  ltones : ∃ a, mg "LETTER_TONES" = some (.ref a) ∧ ∀ H, SqT K H a (iv Kyg.bases)
def spNT (K : PySem.W.Frag) : Sp := fun vs H Q _ => ∃ (a : Addr) (n : Kyg.Note), vs = [.ref a] ∧ SqL K H a (nV n) ∧ n.letter ≤ 6 ∧ ∀ H' : Hp, Same H H' → Q (.int ((Kyg.tone n : Nat) : Int)) H'
theorem base_at {l : Nat} (h : l ≤ 6) : Kyg.bases[l]? = some (Kyg.base l) := by
  have : l = 0 ∨ l = 1 ∨ l = 2 ∨ l = 3 ∨ l = 4 ∨ l = 5 ∨ l = 6 := by omega
  rcases this with rfl | rfl | rfl | rfl | rfl | rfl | rfl <;> rfl
section
variable {P : Program} {w : World} {K : PySem.W.Frag} {mg : Str → Option Value} {base : Heap}
/-! note_tone -/
theorem scNT : FnScope ["note"] ["note"] (defScope sNT) := ⟨rfl, rfl, rfl, by decide +kernel, rfl, by decide +kernel, by decide +kernel⟩
theorem ok_nt {f : Addr} {fd : FuncData} (F : Fun K "note_tone" "note_tone" sNT f fd) (T : TxtT K mg) : FnOk P w K mg base CX0 1 f fd ["note"] (spNT K) := by
  obtain ⟨aL, mL, hL⟩ := T.ltones
  refine F.ok scNT (fun vs H Q E h => ?_) (fun cdv A outer s H vs Q E hr h => ?_)
  · obtain ⟨a, n, rfl, _⟩ := h
    rfl
  · obtain ⟨a, n, rfl, hS, hn, k⟩ := h
    refine ⟨_, pss_one (ps_ret (pe_op op_mod (pe_op op_add (pe_ix ix_tup (pe_gr rfl mL) (pe_ix ix_list (pv 0) pe_int (fun _ _ => rfl)) (fun _ _ => rfl)) (pe_ix ix_list (pv 0) pe_int (fun _ _ => rfl))) (pe_gi rfl T.all12))), ?_⟩
    refine ⟨_, rfl, a, _, 0, _, rfl, rfl, hS, at_of (j := 0) rfl rfl, aL, _, _, _, rfl, rfl, hL _, atI_nat (iv_at (base_at hn)), _, rfl, a, _, 1, _, rfl, rfl, hS, at_of (j := 1) rfl rfl, _, _, rfl, rfl, _, _, rfl, rfl, (by show (0 : Int) < 12; decide), ?_⟩
    have q := k H (Same.refl H)
    rw [tone_int] at q
    exact q
end
end Cg

set_option Elab.async false
set_option linter.all false
set_option maxRecDepth 100000
set_option maxHeartbeats 2000000
/-! bass_tone -/
namespace Cg
open PySem PySem.Spec PyProof.Rows L2 Rd
def spBT (K : PySem.W.Frag) : Sp := fun vs H Q _ => ∃ (a : Addr) (c : Kyg.Chord), vs = [.ref a] ∧ SqL K H a (cV c) ∧ okC c ∧ ∀ H' : Hp, Same H H' → Q (.int ((Kyg.low c : Nat) : Int)) H'
section
variable {P : Program} {w : World} {K : PySem.W.Frag} {mg : Str → Option Value} {base : Heap}
/-! bass_tone -/
theorem scBT : FnScope ["chord"] ["chord"] (defScope sBT) := ⟨rfl, rfl, rfl, by decide +kernel, rfl, by decide +kernel, by decide +kernel⟩
theorem ok_bt {f fN : Addr} {fd fdN : FuncData} (F : Fun K "bass_tone" "bass_tone" sBT f fd) (T : Txt K mg) (TT : TxtT K mg) (FN : Fun K "note_tone" "note_tone" sNT fN fdN) (bN : Binds K fdN ["note"] []) (mN : mg "note_tone" = some (.ref fN)) : FnOk P w K mg base CX0 2 f fd ["chord"] (spBT K) := by
  have GN : FnOk P w K mg base CX0 1 fN fdN ["note"] (spNT K) := ok_nt FN TT
  obtain ⟨aB, mB, hB⟩ := T.nobass
  refine F.ok scBT (fun vs H Q E h => ?_) (fun cdv A outer s H vs Q E hr h => ?_)
  · obtain ⟨a, n, rfl, _⟩ := h
    rfl
  · obtain ⟨a, c, rfl, hS, hc, k⟩ := h
    refine ⟨_, pss_cons (ps_if (pt_cmpR op_eq (pe_ix ix_list (pv 0) pe_int (fun _ _ => rfl)) (pe_ix ix_tup (pe_gr rfl mB) pe_int (fun _ _ => rfl)) (nomark _))
        (pss_one (ps_ret (pe_call GN hr rfl mN FN.kp bN .nil pass0 (pa_cons (pe_slice sl_list (pv 0) po_none (po_some pe_int)) pa_nil)))) pss_nil)
      (pss_one (ps_ret (pe_call GN hr rfl mN FN.kp bN .nil pass0 (pa_cons (pe_slice sl_list (pv 0) (po_some pe_int) po_none) pa_nil)))), ?_⟩
    cases hb : c.bass with
    | none =>
      refine ⟨_, rfl, a, _, 3, _, rfl, rfl, hS, at3_none hb, aB, _, 0, _, rfl, rfl, hB _, at_of (j := 0) rfl rfl, rfl, _, rfl, iteD (fun _ => ?_) (fun e => absurd rfl e)⟩
      refine ⟨_, rfl, 2, rfl, a, _, rfl, hS, fun p hp => ?_⟩
      refine ⟨p, c.root, rfl, SqL.of (upd_same.trans (by rw [cut_root])), hc.root.le, fun H1 s1 => ?_⟩
      have q := k H1 ((Same.new hp).trans s1)
      have e : Kyg.low c = Kyg.tone c.root := by unfold Kyg.low; rw [hb]
      rw [e] at q
      exact q
    | some b =>
      refine ⟨_, rfl, a, _, 3, _, rfl, rfl, hS, at3_some hb, aB, _, 0, _, rfl, rfl, hB _, at_of (j := 0) rfl rfl, rfl, _, rfl, iteD (fun e => ?_) (fun _ => ?_)⟩
      · have z := V.int.inj e
        have := (hc.bass b hb).1.le
        omega
      · refine ⟨_, rfl, 3, rfl, a, _, rfl, hS, fun p hp => ?_⟩
        refine ⟨p, b, rfl, SqL.of (upd_same.trans (by rw [cut_bass hb])), (hc.bass b hb).1.le, fun H1 s1 => ?_⟩
        have q := k H1 ((Same.new hp).trans s1)
        have e : Kyg.low c = Kyg.tone b := by unfold Kyg.low; rw [hb]
        rw [e] at q
        exact q
end
end Cg

set_option Elab.async false
set_option linter.all false
set_option maxRecDepth 100000
set_option maxHeartbeats 2000000
/-! tones: chord_tones -/
namespace Cg
open PySem PySem.Spec PyProof.Rows L2 Rd
structure TxtK (K : PySem.W.Frag) (mg : Str → Option Value) : Prop where
  ktones : ∃ a, mg "KIND_TONES" = some (.ref a) ∧ ∃ ps : List Addr, (∀ H, SqT K H a (ps.map V.ref)) ∧ ∀ k, k ≤ 17 → ∃ p, ps[k]? = some p ∧ ∀ H, SqT K H p (iv (Kyg.steps.getD k []))
  range : mg "range" = none
def spCT (K : PySem.W.Frag) : Sp := fun vs H Q _ => ∃ (a : Addr) (c : Kyg.Chord), vs = [.ref a] ∧ SqL K H a (cV c) ∧ okC c ∧
  ∀ (H' : Hp) (l : Addr), Same H H' → H l = none → H' l = some (.lst (iv (Kyg.tones c))) → Q (.ref l) H'
/-- the kind's tones above the root's -/
def stepT (c : Kyg.Chord) (l : List Nat) : List Nat := l.map fun s => (Kyg.tone c.root + s) % 12
theorem has_in (c : Kyg.Chord) (t : Nat) : inV (.int ((t : Nat) : Int)) (iv (stepT c (Kyg.steps.getD c.kind []) ++ [Kyg.low c])) = Kyg.hasTone c t := by
  rw [Bool.eq_iff_iff]
  unfold inV iv Kyg.hasTone stepT
  rw [List.any_eq_true, Bool.or_eq_true, List.any_eq_true]
  constructor
  · rintro ⟨x, hx, e⟩
    obtain ⟨m, hm, rfl⟩ := List.mem_map.mp hx
    have em : m = t := by
      have := of_decide_eq_true (show decide ((m : Int) = (t : Int)) = true by simpa [eqV] using e)
      omega
    rcases List.mem_append.mp hm with hm | hm
    · obtain ⟨s, hs, e2⟩ := List.mem_map.mp hm
      exact .inr ⟨s, hs, by rw [e2, em]; simp⟩
    · exact .inl (by rw [← em, List.mem_singleton.mp hm]; simp)
  · rintro (h | ⟨s, hs, e⟩)
    · have e : t = Kyg.low c := by simpa using h
      exact ⟨.int ((t : Nat) : Int), List.mem_map.mpr ⟨t, List.mem_append_right _ (by rw [e]; simp), rfl⟩, by simp [eqV]⟩
    · have e : (Kyg.tone c.root + s) % 12 = t := by simpa using e
      exact ⟨.int ((t : Nat) : Int), List.mem_map.mpr ⟨t, List.mem_append_left _ (List.mem_map.mpr ⟨s, hs, e⟩), rfl⟩, by simp [eqV]⟩
theorem flat_iv (w : List Nat) : (iv w).all flatV = true := by
  unfold iv
  rw [List.all_eq_true]
  intro x hx
  obtain ⟨m, _, rfl⟩ := List.mem_map.mp hx
  rfl
theorem steps_short (k : Nat) : (Kyg.steps.getD k []).length ≤ 5 := by
  rw [List.getD_eq_getElem?_getD]
  cases e : Kyg.steps[k]? with
  | none => exact Nat.zero_le _
  | some x =>
    have h : ∀ y ∈ Kyg.steps, y.length ≤ 5 := by decide
    exact h x (List.mem_of_getElem? e)
theorem range_take (n i : Nat) (h : i ≤ n) : (List.range n).take i = List.range i := by
  rw [List.take_range, Nat.min_eq_left h]
theorem filt_snoc {α : Type} (p : α → Bool) (l : List α) (x : α) : (l ++ [x]).filter p = if p x = true then l.filter p ++ [x] else l.filter p := by
  rw [List.filter_append, List.filter_cons, List.filter_nil]
  by_cases h : p x = true
  · rw [if_pos h, if_pos h]
  · rw [if_neg h, if_neg h, List.append_nil]
section
variable {P : Program} {w : World} {K : PySem.W.Frag} {mg : Str → Option Value} {base : Heap}
theorem scCT : FnScope ["chord", "root", "had", "step", "tone"] ["chord"] (defScope sCT) := ⟨rfl, rfl, rfl, by decide +kernel, rfl, by decide +kernel, by decide +kernel⟩
theorem ok_ct {f fN fB : Addr} {fd fdN fdB : FuncData} (F : Fun K "chord_tones" "chord_tones" sCT f fd) (T : Txt K mg) (TT : TxtT K mg) (TK : TxtK K mg) (FN : Fun K "note_tone" "note_tone" sNT fN fdN) (bN : Binds K fdN ["note"] []) (mN : mg "note_tone" = some (.ref fN))
    (FB : Fun K "bass_tone" "bass_tone" sBT fB fdB) (bB : Binds K fdB ["chord"] []) (mB : mg "bass_tone" = some (.ref fB)) : FnOk P w K mg base CX0 3 f fd ["chord"] (spCT K) := by
  have GN : FnOk P w K mg base CX0 2 fN fdN ["note"] (spNT K) := (ok_nt FN TT).mono (by decide)
  have GB : FnOk P w K mg base CX0 2 fB fdB ["chord"] (spBT K) := ok_bt FB T TT FN bN mN
  obtain ⟨aK, mK, ps, hK, hKs⟩ := TK.ktones
  refine F.ok scCT (fun vs H Q E h => ?_) (fun cdv A outer s H vs Q E hr h => ?_)
  · obtain ⟨a, n, rfl, _⟩ := h
    rfl
  · obtain ⟨a, c, rfl, hS, hc, k⟩ := h
    have b1 : blkC ["chord", "root", "had", "step", "tone"] (defScope sCT) { kind := .function, names := [(".0", .local), ("step", .local), ("ALL_TONES", .globalImplicit), ("root", .free)], isGenerator := false, isCoroutine := false } [("step", 3)] = true := by decide +kernel
    have b2 : blkC ["chord", "root", "had", "step", "tone"] (defScope sCT) { kind := .function, names := [(".0", .local), ("tone", .local), ("had", .free)], isGenerator := false, isCoroutine := false } [("tone", 4)] = true := by decide +kernel
    refine ⟨_, pss_cons (ps_set (i := 1) scCT.nd rfl (Or.inr rfl) (pe_call GN hr rfl mN FN.kp bN .nil pass0 (pa_cons (pe_slice sl_list (pv 0) po_none (po_some pe_int)) pa_nil)))
      (pss_cons (ps_set (i := 2) scCT.nd rfl (Or.inr rfl) (pe_lc (own := [("step", 3)]) rfl scCT.nd (pi_tup (pe_ix ix_tup (pe_gr rfl mK) (pe_ix ix_list (pv 0) pe_int (fun _ _ => rfl)) (fun _ _ => rfl))) (blkOk_by b1) (fun _ _ _ _ _ => pg_name (i := 3) scCT.nd rfl (Or.inl rfl)) (fun _ _ _ _ _ => pts_nil)
          (fun _ _ _ _ _ => pe_op op_mod (pe_op op_add (pv 1) (pv 3)) (pe_gi rfl TT.all12))))
      (pss_cons (ps_expr (pe_bm PySem.F.plainAttrs_list PySem.F.slot_list_append PySem.F.type_list_append mt_append (pv 2) (pa_cons (pe_call GB hr rfl mB FB.kp bB .nil pass0 (pa_cons (pv 0) pa_nil)) pa_nil)))
      (pss_one (ps_ret (pe_lc (own := [("tone", 4)]) rfl scCT.nd (pi_range1 rfl TK.range (pa_cons (pe_gi rfl TT.all12) pa_nil)) (blkOk_by b2) (fun _ _ _ _ _ => pg_name (i := 4) scCT.nd rfl (Or.inl rfl)) (fun _ _ _ _ _ => pts_one (pt_cmpR (r := rIn K false) op_in_seq (pv 4) (pv 2) (by with_unfolding_all rfl)))
          (fun _ _ _ _ _ => pv 4)))))), ?_⟩
    -- root = note_tone(chord[:2])
    refine ⟨_, rfl, 2, rfl, a, _, rfl, hS, fun p hp => ?_⟩
    refine ⟨p, c.root, rfl, SqL.of (upd_same.trans (by rw [cut_root])), hc.root.le, fun H1 s1 => ?_⟩
    have s01 : Same H H1 := (Same.new hp).trans s1
    -- had = [..]
    obtain ⟨pk, hpk, hpk2⟩ := hKs c.kind hc.kind
    refine ⟨_, rfl, a, _, 2, _, rfl, rfl, s01.seq hS, at2 c, aK, _, _, _, rfl, rfl, hK _, atI_nat (refs_at hpk), pk, rfl, ⟨_, hpk2 _⟩, fun D hD => ?_⟩
    have hlen := steps_short c.kind
    generalize hst : Kyg.steps.getD c.kind [] = st at hpk2 hlen
    have hin : ∀ t : Nat, inV (.int ((t : Nat) : Int)) (iv (stepT c st ++ [Kyg.low c])) = Kyg.hasTone c t := fun t => by rw [← hst]; exact has_in c t
    refine lc_tup (K := K) (a := pk) (xs := iv st) (fun i H' => H' D = some (.lst (iv (stepT c (st.take i)))) ∧ Same H1 H') ⟨upd_same, Same.new hD⟩ (fun i H' _ _ => hpk2 H') ?_ ?_
    · rintro i x H2 hx ⟨hD2, s2⟩
      obtain ⟨b, hb, rfl⟩ := iv_get hx
      refine ⟨rfl, tYes_if ?_⟩
      refine ⟨_, rfl, _, rfl, _, _, rfl, rfl, _, _, rfl, rfl, (by show (0 : Int) < 12; decide), _, hD2, ?_, ?_, ?_⟩
      · rw [iv_len, stepT, List.length_map, List.length_take]
        exact Nat.lt_of_le_of_lt (Nat.min_le_right _ _) (Nat.lt_of_le_of_lt hlen (by decide))
      · have e1 : stepT c (st.take i ++ [b]) = stepT c (st.take i) ++ [(Kyg.tone c.root + b) % 12] := by simp [stepT]
        have e2 : (((Kyg.tone c.root : Nat) : Int) + ((b : Nat) : Int)) % 12 = (((Kyg.tone c.root + b) % 12 : Nat) : Int) := by omega
        rw [upd_same, take_snoc hb, e1, iv_snoc, ← e2]
      · exact s2.put hD
    · rintro H2 ⟨hD2, s2⟩
      rw [iv_len, List.take_length] at hD2
      have s02 : Same H H2 := s01.trans s2
      have hHD : H D = none := s01.free hD
      -- had.append(bass_tone(chord))
      refine ⟨_, rfl, .inl ⟨rfl, _, SqL.of hD2⟩, _, rfl, a, c, rfl, s02.seq hS, hc, fun H3 s3 => ?_⟩
      have hD3 := s3 _ _ hD2
      refine ⟨D, _, _, rfl, rfl, hD3, ?_, ?_⟩
      · rw [iv_len, stepT, List.length_map]
        exact Nat.lt_of_le_of_lt hlen (by decide)
      · rw [← iv_snoc]
        have s04 : Same H (upd H3 D (.lst (iv (stepT c st ++ [Kyg.low c])))) := (s02.trans s3).put hHD
        -- return [tone for tone in range(ALL_TONES) if tone in had]
        refine ⟨12, rfl, by decide, by decide, fun D2 hD2' => ?_⟩
        have hne : D ≠ D2 := ne_of_none upd_same hD2'
        refine lc_range (lo := 0) (n := 12) (fun i H' => H' D2 = some (.lst (iv ((List.range i).filter (Kyg.hasTone c)))) ∧ H' D = some (.lst (iv (stepT c st ++ [Kyg.low c]))) ∧ Same H H')
          ⟨upd_same, by rw [upd_ne hne]; exact upd_same, s04.trans (Same.new hD2')⟩ ?_ ?_
        · rintro i H4 hi ⟨h1, h2, h3⟩
          refine ⟨rfl, _, rfl, _, rfl, D, _, rfl, .inl (SqL.of h2), rfl, flat_iv _, _, rfl, ?_⟩
          show if inV (.int (0 + (i : Int))) (iv (stepT c st ++ [Kyg.low c])) = true then _ else _
          rw [Int.zero_add, hin]
          by_cases ht : Kyg.hasTone c i = true
          · rw [if_pos ht]
            refine ⟨_, rfl, _, h1, ?_, ?_, ?_, h3.put (s04.free hD2')⟩
            · rw [iv_len]
              exact Nat.lt_of_le_of_lt (List.length_filter_le _ _) (by rw [List.length_range]; exact Nat.lt_of_lt_of_le hi (by decide))
            · rw [upd_same, List.range_succ, filt_snoc, if_pos ht, iv_snoc]
            · rw [upd_ne hne]
              exact h2
          · rw [if_neg ht]
            refine ⟨?_, h2, h3⟩
            rw [List.range_succ, filt_snoc, if_neg ht]
            exact h1
        · rintro H4 ⟨h1, h2, h3⟩
          exact k H4 D2 h3 (s04.free hD2') h1
end
end Cg

set_option Elab.async false
set_option linter.all false
set_option maxRecDepth 100000
set_option maxHeartbeats 4000000
/-! rules that neither the library nor the layer has: xs < ys of lists of ints; s != t of sets of ints -/
namespace Gx
open PySem PyProof.Rows
def lexLt : List Int → List Int → Bool
  | [], [] => false
  | [], _ :: _ => true
  | _ :: _, [] => false
  | x :: xs, y :: ys => if x = y then lexLt xs ys else decide (x < y)
theorem lexLt_cons (x y : Int) (xs ys : List Int) : lexLt (x :: xs) (y :: ys) = if x = y then lexLt xs ys else decide (x < y) := rfl
section
open PySem.SeqAt
open PySem.AutoSeq1 (wpAny_loadPart')
open PySem.MeetsSeq PySem.MeetsSeq2 PySem.MeetsSeq3
theorem lt_loop (l b : Addr) (items items2 : Array Value) (n n2 : Nat) (dd dd2 : Option Addr) (sl sl2 : Array (Option Value)) (ns ms : List Int) (hi : IntsAre items.toList ns) (hj : IntsAre items2.toList ms) (k : Nat) :
    ∀ i : Nat, items.size - i = k → i ≤ items.size → i ≤ items2.size → Meets (Builtin.«list.__eq__.loop» ⟨[.ref l, .ref b, rawInt i, rawInt 0], []⟩)
      (fun A R s => s.heap.get? l = some { cls := .type "list", dict := dd, data := .seq items n, slots := sl } ∧ s.heap.get? b = some { cls := .type "list", dict := dd2, data := .seq items2 n2, slots := sl2 } ∧
        R (.ok (.ret (.bool (lexLt (ns.drop i) (ms.drop i))))) s) := by
  have z1 : items.size = ns.length := by rw [← hi.length]; simp
  have z2 : items2.size = ms.length := by rw [← hj.length]; simp
  induction k with
  | zero =>
    intro i hk h1 h2 prog w A R s h
    obtain ⟨hp, g, d, tk, os⟩ := s; obtain ⟨hl, hb, h⟩ := h
    wp_walk using wpAny_loadPart' hl, wpAny_loadPart' hb
    have hi1 : items[((i : Nat) : Int).toNat]? = none := by simp; omega
    have e1 : ns.drop i = [] := by rw [List.drop_of_length_le]; omega
    rw [e1] at h
    rw [hi1]
    cases hi2 : items2[((i : Nat) : Int).toNat]? with
    | none =>
      wp_walk using wpAny_loadPart' hl, wpAny_loadPart' hb
      show R (.ok (.ret (.bool (decide (items.size < items2.size))))) _
      have i2 : items2.size ≤ i := by simpa using hi2
      have e2 : ms.drop i = [] := by rw [List.drop_of_length_le]; omega
      rw [e2] at h
      rw [decide_eq_false (by omega)]
      exact h
    | some y =>
      wp_walk using wpAny_loadPart' hl, wpAny_loadPart' hb
      show R (.ok (.ret (.bool (decide (items.size < items2.size))))) _
      have i2 : i < items2.size := by
        have := (Array.getElem?_eq_some_iff.mp hi2).1
        simpa using this
      obtain ⟨c, r, e2⟩ : ∃ c r, ms.drop i = c :: r := ⟨_, _, List.drop_eq_getElem_cons (by omega)⟩
      rw [e2] at h
      rw [decide_eq_true (by omega)]
      exact h
  | succ k ih =>
    intro i hk h1 h2 prog w A R s h
    obtain ⟨hp, g, d, tk, os⟩ := s; obtain ⟨hl, hb, h⟩ := h
    have hlt : i < items.size := by omega
    have hi1 : items[((i : Nat) : Int).toNat]? = some items[i] := by simp [hlt]
    obtain ⟨t, ht⟩ := IntsAre.int_at hi i items[i] (by rw [Array.getElem?_toList]; simp [hlt])
    have g1 : ns.getD i 0 = ns[i] := by simp [List.getD_eq_getElem?_getD, show i < ns.length by omega]
    have e1 : ns.drop i = ns[i] :: ns.drop (i + 1) := List.drop_eq_getElem_cons (by omega)
    wp_walk using wpAny_loadPart' hl, wpAny_loadPart' hb
    rw [hi1]
    by_cases hlt2 : i < items2.size
    · have hi2 : items2[((i : Nat) : Int).toNat]? = some items2[i] := by simp [hlt2]
      obtain ⟨u, hu⟩ := IntsAre.int_at hj i items2[i] (by rw [Array.getElem?_toList]; simp [hlt2])
      have g2 : ms.getD i 0 = ms[i] := by simp [List.getD_eq_getElem?_getD, show i < ms.length by omega]
      have e2 : ms.drop i = ms[i] :: ms.drop (i + 1) := List.drop_eq_getElem_cons (by omega)
      have hc : ((i : Int) + 1) = ((i + 1 : Nat) : Int) := by push_cast; rfl
      rw [g1] at ht
      rw [g2] at hu
      rw [e1, e2, lexLt_cons] at h
      rw [hi2, ht, hu]
      refine wpAny_bind (SeqAt.EqAt.int_int ns[i] t ms[i] u prog w _ _ ?_)
      by_cases e : ns[i] = ms[i]
      · rw [if_pos e] at h
        rw [show (ns[i] == ms[i]) = true by simp [e]]
        wp_walk
        rw [hc]
        exact ⟨plainId_quiet plain_eq_loop _, codeAny_builtin entry_eq_loop (by
          rw [Around.under_plainId plain_eq_loop _]
          exact ih (i + 1) (by omega) hlt hlt2 prog w A R _ ⟨hl, hb, h⟩)⟩
      · rw [if_neg e] at h
        rw [show (ns[i] == ms[i]) = false by simp [e]]
        wp_walk using wpAny_loadPart' hl, wpAny_loadPart' hb
        rw [hi1, hi2, ht, hu]
        have hri : ∀ (E : Value → Shared → Prop) (Q : Value → Shared → Prop), Q (.bool (decide (ns[i] < ms[i]))) ⟨hp, g, d, tk, os⟩ → wpAny (model prog w) A.in1 (richCompare .Lt (.int ns[i] t) (.int ms[i] u)) Q E ⟨hp, g, d, tk, os⟩ :=
          fun E Q hq => (PyProof.Rows.lt_int hq : wpAny (model prog w) A.in1 (compareOp .Lt (.int ns[i] t) (.int ms[i] u)) Q E _)
        wp_walk using hri
        exact h
    · have hi2 : items2[((i : Nat) : Int).toNat]? = none := by simp; omega
      have e2 : ms.drop i = [] := by rw [List.drop_of_length_le]; omega
      rw [e1, e2] at h
      rw [hi2]
      wp_walk using wpAny_loadPart' hl, wpAny_loadPart' hb
      show R (.ok (.ret (.bool (decide (items.size < items2.size))))) _
      rw [decide_eq_false (by omega)]
      exact h
theorem list_lt_ints (l b : Addr) (items items2 : Array Value) (n n2 : Nat) (dd dd2 : Option Addr) (sl sl2 : Array (Option Value)) (ns ms : List Int) (hi : IntsAre items.toList ns) (hj : IntsAre items2.toList ms) :
    Meets (Builtin.«list.__lt__» ⟨[.ref l, .ref b], []⟩)
      (fun A R s => s.heap.get? l = some { cls := .type "list", dict := dd, data := .seq items n, slots := sl } ∧ s.heap.get? b = some { cls := .type "list", dict := dd2, data := .seq items2 n2, slots := sl2 } ∧
        R (.ok (.ret (.bool (lexLt ns ms)))) s) := by
  intro prog w A R s h
  obtain ⟨hp, g, d, tk, os⟩ := s; obtain ⟨hl, hb, h⟩ := h
  have f3 := AutoSeq1.sub_list_list
  wp_walk using wpAny_loadPart' hl, wpAny_loadPart' hb
  exact ⟨plainId_quiet plain_eq_loop _, codeAny_builtin entry_eq_loop (by
    rw [Around.under_plainId plain_eq_loop _]
    exact lt_loop l b items items2 n n2 dd dd2 sl sl2 ns ms hi hj _ 0 rfl (Nat.zero_le _) (Nat.zero_le _) prog w A R _ ⟨hl, hb, by simpa using h⟩)⟩
end
section
variable {prog : Program} {w : World} {A : Around} {E : Value → Shared → Prop} {s : Shared}
theorem lt_listInts {l b : Addr} {items items2 : Array Value} {ns ms : List Int} {Q : Value → Shared → Prop} (hl : s.heap.IsList l items) (hb : s.heap.IsList b items2) (hi : IntsAre items.toList ns) (hj : IntsAre items2.toList ms)
    (hu : A.units < cLine) (h : Q (.bool (lexLt ns ms)) s) : wpAny (model prog w) A (richCompare .Lt (.ref l) (.ref b)) Q E s := by
  obtain ⟨⟨cls, dd, data, sl⟩, ho, hc, n, hd⟩ := id hl
  obtain ⟨⟨cls2, dd2, data2, sl2⟩, ho2, hc2, n2, hd2⟩ := id hb
  simp only at hc hd hc2 hd2
  subst hc hd hc2 hd2
  exact richCompare_meets_room (op := .Lt) ⟨_, ho, rfl⟩ ⟨_, ho2, rfl⟩ PySem.F.slot_list_lt PySem.F.entry_list_lt (PySem.F.args_list_lt_2 _ _) (list_lt_ints l b items items2 n n2 dd dd2 sl sl2 ns ms hi hj)
    ⟨ho, ho2, show Value.bool (lexLt ns ms) ≠ Value.notImplemented ∧ Q (.bool (lexLt ns ms)) s from ⟨(fun x => nomatch x), h⟩⟩ hu
end
end Gx

set_option Elab.async false
set_option linter.all false
set_option maxRecDepth 100000
set_option maxHeartbeats 4000000
namespace Gx
open PySem PyProof.Rows
theorem entry_set_ne : entryFor table "set.__ne__" = some Builtin.«frozenset.__ne__» := entryFor_alias (id' := "frozenset.__ne__") (by kernel_rfl) rfl (by decide +kernel) (by kernel_rfl)
theorem sub_set_set : isSubtype (.type "set") (.type "set") = pure true := by rw [isSubtype_type]; kernel_rfl
theorem sub_set_frozen : isSubtype (.type "set") (.type "frozenset") = pure false := by rw [isSubtype_type]; kernel_rfl
theorem quiet_eq {x : Value} (h : x.scannable = true) : Builtin.Frozenset.quietEq x = pure true := by
  cases x <;> first | rfl | cases h
section
variable {prog : Program} {w : World} {A : Around} {E : Value → Shared → Prop} {s : Shared}
theorem entries_of {a : Addr} {o : Obj} {es : Array (Int × Value)} {ep : Nat} {t : SetTable} {Q : Array (Int × Value) → Shared → Prop} (ho : s.heap.get? a = some o) (hd : o.data = .set es ep t) (hf : t.fits es.size = true) (h : Q es s) :
    wpAny (model prog w) A (setEntries a) Q E s := by
  unfold setEntries
  exact wpAny_bind (wpAny_setState_of ho hd hf (wpAny_pure h))
theorem size_of {a : Addr} {o : Obj} {es : Array (Int × Value)} {ep : Nat} {t : SetTable} {Q : Nat → Shared → Prop} (ho : s.heap.get? a = some o) (hd : o.data = .set es ep t) (hf : t.fits es.size = true) (h : Q es.size s) :
    wpAny (model prog w) A (Builtin.Frozenset.sizeOf a) Q E s := by
  unfold Builtin.Frozenset.sizeOf
  exact wpAny_bind (entries_of ho hd hf (wpAny_pure h))
theorem unseen_of {a b : Addr} {o : Obj} {es : Array (Int × Value)} {ep : Nat} {t : SetTable} {o2 : Obj} {es2 : Array (Int × Value)} {ep2 : Nat} {t2 : SetTable} {Q : List (Int × Value) → Shared → Prop}
    (ho : s.heap.get? a = some o) (hd : o.data = .set es ep t) (hf : t.fits es.size = true) (ho2 : s.heap.get? b = some o2) (hd2 : o2.data = .set es2 ep2 t2) (hf2 : t2.fits es2.size = true)
    (q1 : ∀ e, e ∈ es.toList → e.2.scannable = true) (q2 : ∀ e, e ∈ es2.toList → e.2.scannable = true) (h : Q es.toList s) : wpAny (model prog w) A (Builtin.Frozenset.walkUnseen a b) Q E s := by
  unfold Builtin.Frozenset.walkUnseen
  refine wpAny_bind (entries_of ho hd hf ?_)
  refine wpAny_bind (entries_of ho2 hd2 hf2 ?_)
  have hq : ∀ e, e ∈ es.toList ++ es2.toList → e.2.scannable = true := fun e he => (List.mem_append.mp he).elim (q1 e) (q2 e)
  refine wpAny_bind ?_
  refine wpAny_forIn_list _ (fun rest b' s' => b'.1 = none ∧ s' = s ∧ ∀ e, e ∈ rest → e.2.scannable = true) _ ?_ ?_ _ _ ⟨rfl, rfl, hq⟩
  · rintro ⟨k, x⟩ rest ⟨b1, b2⟩ s' ⟨e1, e2, e3⟩
    subst e2
    simp only at e1
    subst e1
    simp only [quiet_eq (e3 (k, x) (List.mem_cons_self ..))]
    refine wpAny_bind (wpAny_pure ?_)
    simp only [Bool.not_true, Bool.false_eq_true, if_false]
    exact wpAny_pure ⟨rfl, rfl, fun e he => e3 e (List.mem_cons_of_mem _ he)⟩
  · rintro ⟨b1, b2⟩ s' ⟨e1, e2, _⟩
    subst e2
    simp only at e1
    subst e1
    exact wpAny_pure h
theorem unchanged_of {idn : String} {a : Addr} {o : Obj} {es : Array (Int × Value)} {ep : Nat} {t : SetTable} {Q : Unit → Shared → Prop} (ho : s.heap.get? a = some o) (hd : o.data = .set es ep t) (hf : t.fits es.size = true) (h : Q () s) :
    wpAny (model prog w) A (Builtin.Frozenset.unchanged idn a ep) Q E s := by
  unfold Builtin.Frozenset.unchanged
  refine wpAny_bind (wpAny_setEpoch_of ho hd hf ?_)
  simp only [bne_self_eq_false, Bool.false_eq_true, if_false]
  exact wpAny_pure h
theorem subset_of {idn : String} {a b : Addr} {S S' : Int → Bool} {n m : Nat} {Q : Bool → Shared → Prop} (ha : s.heap.SetOf (intKind prog w) a S n) (hb : s.heap.SetOf (intKind prog w) b S' m) (hnm : n ≤ m)
    (h : ∀ r : Bool, (r = true ↔ ∀ k, S k = true → S' k = true) → Q r s) : wpAny (model prog w) A (Builtin.Frozenset.subsetOf idn a b) Q E s := by
  obtain ⟨o, es, ep, t, ho, hx, hd, hel, hmem, hsb, hf, hn⟩ := id ha
  obtain ⟨o2, es2, ep2, t2, ho2, hx2, hd2, hel2, hmem2, hsb2, hf2, hn2⟩ := id hb
  unfold Builtin.Frozenset.subsetOf
  refine wpAny_bind (size_of ho hd hf ?_)
  refine wpAny_bind (size_of ho2 hd2 hf2 ?_)
  rw [if_neg (by rw [hn, hn2]; omega)]
  refine wpAny_bind (wpAny_setEpoch_of ho hd hf ?_)
  refine wpAny_bind (unseen_of ho hd hf ho2 hd2 hf2 (fun e he => (hel e he).2) (fun e he => (hel2 e he).2) ?_)
  refine wpAny_bind ?_
  refine wpAny_forIn_list _ (fun rest b' s' => b'.1 = none ∧ s' = s ∧ (∀ e, e ∈ rest → e ∈ es.toList) ∧ ((∀ k, S k = true → S' k = true) ↔ ∀ e, e ∈ rest → ∀ k, (intKind prog w).is k e.2 = true → S' k = true)) _ ?_ ?_ _ _ ⟨rfl, rfl, fun e he => he, ?_⟩
  · rintro ⟨hh, x⟩ rest ⟨b1, b2⟩ s' ⟨e1, e2, e3, e4⟩
    subst e2
    simp only at e1
    subst e1
    obtain ⟨⟨k, hk, ehh⟩, hsc⟩ := hel _ (e3 (hh, x) (List.mem_cons_self ..))
    simp only at hk ehh hsc
    subst ehh
    refine wpAny_bind (wpAny_holding (wpAny_setFind_of hk hsc hb fun r hr => ?_))
    cases hS' : S' k with
    | false =>
      rw [hS'] at hr
      have er : r = none := by cases r with | none => rfl | some _ => cases hr
      subst er
      simp only [Option.isNone_none, if_true]
      refine wpAny_pure ?_
      simp only
      refine wpAny_pure (h false (Iff.intro (fun z => Bool.noConfusion z) fun z => ?_))
      have := (e4.mp z) _ (List.mem_cons_self ..) k hk
      rw [hS'] at this
      cases this
    | true =>
      rw [hS'] at hr
      obtain ⟨j, er⟩ : ∃ j, r = some j := by cases r with | none => cases hr | some j => exact ⟨j, rfl⟩
      subst er
      simp only [Option.isNone_some, Bool.false_eq_true, if_false]
      refine wpAny_bind (unchanged_of ho hd hf ?_)
      refine wpAny_pure ⟨rfl, rfl, fun e he => e3 e (List.mem_cons_of_mem _ he), e4.trans ⟨fun z e he => z e (List.mem_cons_of_mem _ he), fun z e he => ?_⟩⟩
      rcases List.mem_cons.mp he with rfl | he
      · intro k' hk'
        have : k' = k := by
          have q := KeyKind.is_eq_decide (knd := intKind prog w) hk k'
          rw [hk'] at q
          exact of_decide_eq_true q.symm
        rw [this]
        exact hS'
      · exact z e he
  · rintro ⟨b1, b2⟩ s' ⟨e1, e2, _, e4⟩
    subst e2
    simp only at e1
    subst e1
    exact wpAny_pure (h true ⟨fun _ => e4.mpr (fun e he => by cases he), fun _ => rfl⟩)
  · constructor
    · intro z e he k hk
      exact z k ((hmem k).mpr ⟨e, he, hk⟩)
    · intro z k hk
      obtain ⟨e, he, q⟩ := (hmem k).mp hk
      exact z e he k q
theorem set_ne_tree {a b : Addr} {S S' : Int → Bool} {n m : Nat} {Q : Value → Shared → Prop} (ha : s.heap.SetOf (intKind prog w) a S n) (hb : s.heap.SetOf (intKind prog w) b S' m)
    (h : ∀ r : Bool, (r = false ↔ n = m ∧ ∀ k, S k = true → S' k = true) → Q (.bool r) s) :
    wpAny (model prog w) A.in1 (Builtin.«frozenset.__ne__» ⟨[.ref a, .ref b], []⟩) (fun fin s' => ∃ v, fin = .done (.ret v) ∧ Q v s') E s := by
  obtain ⟨hp, g, d, tk, os⟩ := s
  obtain ⟨o, es, ep, t, ho, hx, hd, hel, hmem, hsb, hf, hn⟩ := id ha
  obtain ⟨o2, es2, ep2, t2, ho2, hx2, hd2, hel2, hmem2, hsb2, hf2, hn2⟩ := id hb
  have T1 : Shared.TypeIs ⟨hp, g, d, tk, os⟩ (.ref a) "set" := ⟨o, ho, hx.1⟩
  have T2 : Shared.TypeIs ⟨hp, g, d, tk, os⟩ (.ref b) "set" := ⟨o2, ho2, hx2.1⟩
  have f1 := sub_set_set
  have f2 := sub_set_frozen
  by_cases hnm : n = m
  · have hb1 : (es.size != es2.size) = false := by rw [hn, hn2, hnm]; simp
    wp_walk using size_of ho hd hf, size_of ho2 hd2 hf2, subset_of ha hb (Nat.le_of_eq hnm)
    intro r hr
    refine wpAny_pure ⟨_, rfl, h (!r) ?_⟩
    cases r with
    | true => exact Iff.intro (fun _ => ⟨hnm, hr.mp rfl⟩) fun _ => rfl
    | false => exact Iff.intro (fun z => Bool.noConfusion z) fun z => Bool.noConfusion (hr.mpr z.2)
  · have hb1 : (es.size != es2.size) = true := by rw [hn, hn2]; simp [hnm]
    wp_walk using size_of ho hd hf, size_of ho2 hd2 hf2
    refine ⟨_, rfl, h true ⟨fun z => (by cases z), fun z => absurd z.1 hnm⟩⟩
theorem ne_sets {a b : Addr} {S S' : Int → Bool} {n m : Nat} {Q : Value → Shared → Prop} (ha : s.heap.SetOf (intKind prog w) a S n) (hb : s.heap.SetOf (intKind prog w) b S' m) (hu : A.units < cLine)
    (h : ∀ r : Bool, (r = false ↔ n = m ∧ ∀ k, S k = true → S' k = true) → Q (.bool r) s) : wpAny (model prog w) A (compareOp .NotEq (.ref a) (.ref b)) Q E s := by
  refine (wpAny_richCompare_same_room ha.typeIs hb.typeIs PySem.F.slot_set_ne (wpAny_call_entry PySem.F.slot_set_ne ha.typeIs entry_set_ne (set_ne_tree ha hb fun r hr => ?_) (PySem.F.args_set_ne_2 _ _)) hu : wpAny (model prog w) A (richCompare .NotEq (.ref a) (.ref b)) Q E s)
  exact ⟨(fun x => nomatch x), h r hr⟩
end
end Gx

set_option Elab.async false
set_option linter.all false
set_option maxRecDepth 100000
set_option maxHeartbeats 4000000
/-! rules that the hand layer lacks: xs.count(k), set(xs), s != t of sets, min(xs, key=f, default=None) -/
namespace L2
open PySem PySem.Spec PyProof.Rows
section
variable {X : Cx}
/-- xs.count(k), ints -/
def rCount (K : PySem.W.Frag) : V → List V → Hp → VK → Prop := fun x xs H Q => ∃ (a : Addr) (ns : List Int) (k : Int), x = V.ref a ∧ xs = [V.int k] ∧ SqL K H a (ns.map V.int) ∧ Q (.int ((ns.count k : Nat) : Int)) H
theorem mt_countL : MtR X "list.count" (rCount X.K) := by
  intro pins s σ H x xs v us Q I rx rxs h
  obtain ⟨a, ns, k, rfl, rfl, hs, q⟩ := h
  cases rx
  cases rxs with
  | cons rk rt =>
    cases rt
    obtain ⟨t, rfl⟩ := rk
    obtain ⟨its, rv, hl, _⟩ := I.list hs
    exact count_list_ints hl.isList rv.ints ⟨.int _, H, I.tok _, ⟨_, rfl⟩, q⟩
/-- set(xs), ints: ds are its members, each once -/
def rSet (K : PySem.W.Frag) : List V → Hp → VK → Prop := fun vs H Q => ∃ (a : Addr) (ns : List Int), vs = [V.ref a] ∧ SqL K H a (ns.map V.int) ∧ ns.length + 1 < scanBound ∧
  ∀ (p : Addr) (ds : List Int), H p = none → ds.Nodup → (∀ k, k ∈ ds ↔ k ∈ ns) → Q (.ref p) (upd H p (.set (fun k => ds.any (· == k)) ds.length))
theorem dedup_nodup (σ : List Int) (v : Int) (h : σ.Nodup) : (step_dedup σ v).Nodup := by
  unfold step_dedup
  by_cases e : σ.any (· == v) = true
  · rw [if_pos e]; exact h
  · rw [if_neg e]
    rw [List.nodup_append]
    refine ⟨h, by simp, fun a ha b hb => ?_⟩
    rw [List.mem_singleton.mp hb]
    intro z
    exact e (List.any_eq_true.mpr ⟨a, ha, by simp [z]⟩)
theorem met_nodup (val : Nat → Int) : ∀ i, (firstMet val i).Nodup
  | 0 => by rw [firstMet_zero]; exact List.nodup_nil
  | i + 1 => by rw [firstMet_succ]; exact dedup_nodup _ _ (met_nodup val i)
theorem range_getD (ns : List Int) : (List.range ns.length).map (fun i => ns.getD i 0) = ns := by
  refine List.ext_getElem (by simp) fun i h1 h2 => ?_
  simp at h1
  simp [List.getD_eq_getElem?_getD, h1]
theorem call_set (hc : X.calm = true) : CallR X (.type "set") (rSet X.K) := by
  intro pins s σ H vs us Q I r h
  obtain ⟨a, ns, rfl, hs, hb, q⟩ := h
  obtain ⟨its, rv, hl, _⟩ := I.list hs
  rw [Vals.ref1 r]
  have hi := rv.ints
  have hlen : its.toArray.size = ns.length := by rw [List.size_toArray, hi.length]
  refine PySem.call_set_list (I.ok.hd hc) hl.isList (by simpa using hi) (by rw [hlen]; exact hb) fun h' tk hS hk => ?_
  rw [hlen] at hS
  refine ⟨.ref _, _, I.laid (o := .set (fun k => (firstMet (fun i => ns.getD i 0) ns.length).any (· == k)) (firstMet (fun i => ns.getD i 0) ns.length).length) (fun b o e => hk b o (Heap.lt_size e) e) (Nat.le_refl _) hS, rfl, q _ _ (I.hok.fresh (Nat.le_refl _)) (met_nodup _ _) fun k => ?_⟩
  have e := firstMet_any (fun i => ns.getD i 0) ns.length k
  rw [range_getD] at e
  rw [Bool.eq_iff_iff, List.any_eq_true, List.any_eq_true] at e
  constructor
  · intro hk
    obtain ⟨x, hx, z⟩ := e.mp ⟨k, hk, by simp⟩
    have : x = k := by simpa using z
    rw [← this]; exact hx
  · intro hk
    obtain ⟨x, hx, z⟩ := e.mpr ⟨k, hk, by simp⟩
    have : x = k := by simpa using z
    rw [← this]; exact hx
/-- s != t, sets of ints -/
def rNeSet : R2 := fun x y H Q => ∃ (a b : Addr) (S S' : Int → Bool) (n m : Nat), x = .ref a ∧ y = .ref b ∧ H a = some (.set S n) ∧ H b = some (.set S' m) ∧ ∀ r : Bool, (r = false ↔ n = m ∧ ∀ k, S k = true → S' k = true) → Q (.bl r) H
theorem op_neSet (hu : X.A.units < cLine) : OpR X (compareOp .NotEq) rNeSet := by
  intro pins s σ H x y v u Q I rx ry h
  obtain ⟨a, b, S, S', n, m, rfl, rfl, ha, hb, q⟩ := h
  cases rx
  cases ry
  exact Gx.ne_sets (I.hok a _ ha) (I.hok b _ hb) hu fun r hr => ⟨.bl r, H, I, rfl, q r hr⟩
end
/-! min(xs, key=f, default=None) -/
theorem lexLt_irr : ∀ a : List Int, Gx.lexLt a a = false
  | [] => rfl
  | x :: a => by rw [Gx.lexLt_cons, if_pos rfl]; exact lexLt_irr a
theorem lexLt_trans : ∀ {a b c : List Int}, Gx.lexLt a b = true → Gx.lexLt b c = true → Gx.lexLt a c = true
  | [], [], _, h, _ => by cases h
  | [], _ :: _, [], _, h => by cases h
  | [], _ :: _, _ :: _, _, _ => rfl
  | _ :: _, [], _, h, _ => by cases h
  | _ :: _, _ :: _, [], _, h => by cases h
  | x :: a, y :: b, z :: c, h1, h2 => by
    rw [Gx.lexLt_cons] at h1 h2 ⊢
    by_cases e1 : x = y
    · rw [if_pos e1] at h1
      by_cases e2 : y = z
      · rw [if_pos e2] at h2
        rw [if_pos (e1.trans e2)]
        exact lexLt_trans h1 h2
      · rw [if_neg e2] at h2
        rw [if_neg (by rw [e1]; exact e2), e1]
        exact h2
    · rw [if_neg e1] at h1
      have l1 := of_decide_eq_true h1
      by_cases e2 : y = z
      · rw [← e2, if_neg e1]
        exact h1
      · rw [if_neg e2] at h2
        have l2 := of_decide_eq_true h2
        rw [if_neg (by omega)]
        exact decide_eq_true (by omega)
theorem args_minK (a v d : Value) : argsOk "min" ⟨[a], [(Str.ofString "key", v), (Str.ofString "default", d)]⟩ := by unfold argsOk; kernel_rfl
section
variable {X : Cx} {k : Nat} {f : Addr} {fd : FuncData} {p : Str} {sp : Sp}
/-- each item's key is asked for once, in a state that keeps what was; an item with the least key comes back -/
def MinK (K : PySem.W.Frag) (sp : Sp) (H1 : Hp) (a : Addr) (xs : List V) (kf : Nat → List Int) (Q : VK) : Prop := SqL K H1 a xs ∧
  (∀ i y H2, xs[i]? = some y → Same H1 H2 → sp [y] H2 (fun v H3 => ∃ q, v = .ref q ∧ Same H2 H3 ∧ H3 q = some (.lst ((kf i).map V.int))) E0) ∧
  (xs = [] → ∀ H2, Same H1 H2 → Q .non H2) ∧ ∀ i y H2, xs[i]? = some y → (∀ j, j < xs.length → Gx.lexLt (kf j) (kf i) = false) → Same H1 H2 → Q y H2
/-- what the list of the best holds -/
def Best (xs : List V) (kf : Nat → List Int) (H2 : Hp) (j : Nat) (its : Array Value) : Prop :=
  (j = 0 ∧ its = #[]) ∨ ∃ (i : Nat) (y : V) (u : Value) (q : Addr), xs[i]? = some y ∧ RelV y u ∧ its = #[u, .ref q] ∧ H2 q = some (.lst ((kf i).map V.int)) ∧ ∀ j', j' < j → Gx.lexLt (kf j') (kf i) = false
def RMin (X : Cx) (pins : List (Addr × Obj)) (σ : St) (Q : VK) : Result → Shared → Prop := fun r s' => match r with
  | .ok (.ret v) => EP X pins σ Q v s'
  | .ok _ => False
  | .error e => X.xe e s'
/-- the callee runs within a builtin -/
theorem run_in1 {pins : List (Addr × Obj)} {σ : St} {H : Hp} {s : Shared} {Q : VK} {u : Value} {y : V} {E : Value → Shared → Prop} (F : FnOk X.prog X.w X.K X.mg X.base CX0 k f fd [p] sp) (hr : Room (k + 1) X.A) (hb : Binds X.K fd [p] [])
    (I : Inv X pins σ H s) (r : RelV y u) (h : sp [y] H Q E0) : wpAny (model X.prog X.w) X.A.in1 (call (.ref f) [u]) (EP X pins σ Q) E s := by
  refine wpAny_call (codeAny_mono (F.run X.A.in1 X.stack s H ⟨[u], []⟩ [u] [y] Q E0 hr.in1 I.env0.in1 (hb s [u] I.kIn rfl) (.cons r .nil) h) fun r s' hq => ?_)
  cases r with
  | error e => exact False.elim hq
  | ok fl =>
    cases fl with
    | ret u => exact I.after hq
    | next => exact False.elim hq
    | brk => exact False.elim hq
    | cont => exact False.elim hq
theorem FpOk.at {pins : List (Addr × Obj)} {H H' : Hp} {b : Addr} (h : FpOk X pins H b) (n : H' b = none) : FpOk X pins H' b := ⟨n, h.2⟩
theorem FpOk.pin {pins : List (Addr × Obj)} {H : Hp} {s : Shared} {b : Addr} {o : Obj} (h : FpOk X pins H b) (e : s.heap.get? b = some o) (d : ∀ v, o.data ≠ .cell v) : s.heap.get? b = some o ∧ H b = none ∧ b ≠ X.env.locals ∧ b ∉ X.fs ∧ ∀ v, o.data ≠ .cell v :=
  ⟨e, h.1, h.2.1, h.2.2.1, d⟩
theorem Inv.turn1 {pins : List (Addr × Obj)} {σ : St} {H : Hp} {s : Shared} {h' : Heap} {t' : Nat} {b : Addr} (I : Inv X pins σ H s) (f : FpOk X pins H b) (sb : Heap.SameBut b s.heap h') : Inv X pins σ H { s with heap := h', toks := t' } :=
  I.turned (fun c o hc e => (sb.2 c hc).trans e) f.1 f.2.1 f.2.2.2.1 f.2.2.2.2.1 f.2.2.2.2.2
theorem minK_loop {pins : List (Addr × Obj)} {σ : St} {H1 : Hp} {Q : VK} {a it S : Addr} {xs : List V} {kf : Nat → List Int} (F : FnOk X.prog X.w X.K X.mg X.base CX0 k f fd [p] sp) (hr : Room (k + 1) X.A) (hb : Binds X.K fd [p] []) (hc : X.calm = true)
    (M : MinK X.K sp H1 a xs kf Q) (hne : S ≠ it) : ∀ (r j : Nat) (s : Shared) (H2 : Hp) (its : Array Value) (c : Nat), xs.length - j = r → j ≤ xs.length → Inv X pins σ H2 s → Same H1 H2 → FpOk X pins H2 it → FpOk X pins H2 S →
      s.heap.IsListIter it a j → s.heap.get? S = some (seqObj "list" its c) → Best xs kf H2 j its →
      codeAny (model X.prog X.w) X.A (.builtin "min.loop" ⟨[.ref it, .ref f, .ref S], [(Str.ofString "default", .none)]⟩) (RMin X pins σ Q) s := by
  have hname : (toString "min" ++ toString ".loop" : String) = "min.loop" := by decide
  obtain ⟨hL, hkey, hno, hyes⟩ := M
  intro r
  induction r with
  | zero =>
    intro j s H2 its c hrj hj I s12 fI fS hit hS B
    have hjn : j = xs.length := by omega
    obtain ⟨vs, rv, hl, _⟩ := I.list (s12.seq hL)
    have hlen := rv.length
    refine codeAny_builtin PySem.F.entry_min_loop ?_
    rw [Around.under_plainId PySem.F.plain_min_loop _]
    show wpAny _ X.A.in1 (seqItems? (.ref S) >>= _) _ _ _
    refine wpAny_bind (wpAny_seqItems hS rfl ?_)
    show wpAny _ X.A.in1 (tryCatch (pyNext (.ref it)) _ >>= _) _ _ _
    refine wpAny_bind (wpAny_tryCatch (wpAny_pyNext_list_end (show X.A.in1.handled = none from I.ok.hd hc) hit hl.isList (by simp; omega) fun h' eb => ?_))
    have I2 : Inv X pins σ H2 { s with heap := h' } := I.turned (t' := s.toks) (fun b o hb e => eb b o hb e) fI.1 fI.2.1 fI.2.2.2.1 fI.2.2.2.2.1 fI.2.2.2.2.2
    have hS' := eb S _ hne hS
    rcases B with ⟨j0, rfl⟩ | ⟨i, y, u, q, hy, ru, rfl, hq, hbest⟩
    · have e : xs = [] := List.length_eq_zero_iff.mp (by omega)
      show wpAny _ X.A.in1 (rule _ >>= _) _ _ _
      refine wpAny_bind (wpAny_rule (wpAny_pure ?_))
      exact ⟨.non, H2, I2, rfl, hno e H2 s12⟩
    · show wpAny _ X.A.in1 (updateSeq S (fun _ => #[]) >>= _) _ _ _
      refine wpAny_bind ?_
      refine wpAny_updateSeq hS' rfl (wpAny_bind (wpAny_letGo (wpAny_pure ?_)))
      exact ⟨y, H2, I2.turn1 (t' := s.toks) fS (Heap.SameBut.update ..), ru, hyes i y H2 hy (fun j' hj' => hbest j' (by omega)) s12⟩
  | succ r ih =>
    intro j s H2 its c hrj hj I s12 fI fS hit hS B
    have hlt : j < xs.length := by omega
    obtain ⟨vs, rv, hl, _⟩ := I.list (s12.seq hL)
    obtain ⟨y, hy⟩ : ∃ y, xs[j]? = some y := ⟨_, List.getElem?_eq_getElem hlt⟩
    obtain ⟨u, hu, ru⟩ := rv.get hy
    refine codeAny_builtin PySem.F.entry_min_loop ?_
    rw [Around.under_plainId PySem.F.plain_min_loop _]
    show wpAny _ X.A.in1 (seqItems? (.ref S) >>= _) _ _ _
    refine wpAny_bind (wpAny_seqItems hS rfl ?_)
    show wpAny _ X.A.in1 (tryCatch (pyNext (.ref it)) _ >>= _) _ _ _
    refine wpAny_bind (wpAny_tryCatch (wpAny_pyNext_list_item hit hl.isList (x := u) (by simpa using hu) fun h' hit' sb => ?_))
    have I2 : Inv X pins σ H2 { s with heap := h' } := I.turn1 (t' := s.toks) fI sb
    have hS' : h'.get? S = some (seqObj "list" its c) := (sb.2 S hne).trans hS
    obtain ⟨oI, hoI, hcI, hdI⟩ := id hit'
    have dI : ∀ v, oI.data ≠ .cell v := fun v z => by rw [hdI] at z; cases z
    have I3 : Inv X ((it, oI) :: (S, seqObj "list" its c) :: pins) σ H2 { s with heap := h' } := I2.pins_of fun q hq => by
      rcases List.mem_cons.mp hq with rfl | hq
      · exact fI.pin (s := { s with heap := h' }) hoI dI
      · rcases List.mem_cons.mp hq with rfl | hq
        · exact fS.pin (s := { s with heap := h' }) hS' fun v z => by cases z
        · exact I2.pin q (List.mem_append_right _ hq)
    show wpAny _ X.A.in1 (tryCatch (holding [u] (call (.ref f) [u])) _ >>= _) _ _ _
    refine wpAny_bind (wpAny_tryCatch (wpAny_holding (wpAny_mono (run_in1 F hr hb I3 ru (hkey j y H2 hy s12)) (fun kv s4 he => ?_) fun _ _ hF => hF)))
    obtain ⟨v4, H4, I4, r4, q, rfl, s24, hq4⟩ := he
    obtain rfl : kv = Value.ref q := r4
    have pI := I4.pin (it, oI) (List.mem_append_right _ (.head _))
    have pS := I4.pin (S, seqObj "list" its c) (List.mem_append_right _ (.tail _ (.head _)))
    have I5 : Inv X pins σ H4 s4 := I4.pins_of fun q hq => I4.pin q (List.mem_append_right _ (.tail _ (.tail _ hq)))
    have fI4 : FpOk X pins H4 it := fI.at pI.2.1
    have fS4 : FpOk X pins H4 S := fS.at pS.2.1
    have hit4 : s4.heap.IsListIter it a (j + 1) := ⟨oI, pI.1, hcI, hdI⟩
    have s14 : Same H1 H4 := s12.trans s24
    rcases B with ⟨j0, rfl⟩ | ⟨i, yb, ub, qb, hyb, rub, rfl, hqb, hbest⟩
    · -- the first
      show wpAny _ X.A.in1 (updateSeq S (fun _ => #[u, .ref q]) >>= _) _ _ _
      refine wpAny_bind ?_
      refine wpAny_updateSeq pS.1 rfl ?_
      rw [hname]
      have sb6 := Heap.SameBut.update s4.heap S (Obj.mapSeq fun _ => #[u, .ref q])
      refine wpAny_pure ⟨plainId_quiet PySem.F.plain_min_loop _, ih (j + 1) _ H4 _ _ (by omega) hlt (I5.turn1 (t' := s4.toks) fS4 sb6) s14 fI4 fS4 ⟨oI, (sb6.2 it hne.symm).trans pI.1, hcI, hdI⟩ (get?_update_seq pS.1 fun _ => #[u, .ref q]) ?_⟩
      refine .inr ⟨j, y, u, q, hy, ru, rfl, hq4, fun j' hj' => ?_⟩
      have e : j' = j := by omega
      rw [e]
      exact lexLt_irr _
    · -- a later one
      obtain ⟨k1, rk1, l1, _⟩ := I5.list (SqL.of hq4)
      obtain ⟨k2, rk2, l2, _⟩ := I5.list (SqL.of (s24 _ _ hqb))
      show wpAny _ X.A.in1 (tryCatch (holding [u, .ref q] (richCompare .Lt (.ref q) (.ref qb) >>= _)) _ >>= _) _ _ _
      refine wpAny_bind (wpAny_tryCatch (wpAny_holding (wpAny_bind (Gx.lt_listInts l1.isList l2.isList rk1.ints rk2.ints hr.in1.units0 ?_))))
      refine wpAny_bind (wpAny_holding (wpAny_truthy_bool ?_))
      refine wpAny_bind (wpAny_letGo (wpAny_pure ?_))
      cases hlt' : Gx.lexLt (kf j) (kf i) with
      | true =>
        simp only [if_true]
        refine wpAny_bind ?_
        refine wpAny_updateSeq pS.1 rfl (wpAny_bind (wpAny_letGo ?_))
        rw [hname]
        have sb6 := Heap.SameBut.update s4.heap S (Obj.mapSeq fun _ => #[u, .ref q])
        refine wpAny_pure ⟨plainId_quiet PySem.F.plain_min_loop _, ih (j + 1) _ H4 _ _ (by omega) hlt (I5.turn1 (t' := s4.toks) fS4 sb6) s14 fI4 fS4 ⟨oI, (sb6.2 it hne.symm).trans pI.1, hcI, hdI⟩ (get?_update_seq pS.1 fun _ => #[u, .ref q]) ?_⟩
        refine .inr ⟨j, y, u, q, hy, ru, rfl, hq4, fun j' hj' => ?_⟩
        by_cases e : j' = j
        · rw [e]; exact lexLt_irr _
        · have hb' := hbest j' (by omega)
          cases z : Gx.lexLt (kf j') (kf j) with
          | false => rfl
          | true => rw [lexLt_trans z hlt'] at hb'; cases hb'
      | false =>
        simp only [Bool.false_eq_true, if_false]
        refine wpAny_bind (wpAny_letGo ?_)
        rw [hname]
        refine wpAny_pure ⟨plainId_quiet PySem.F.plain_min_loop _, ih (j + 1) _ H4 _ _ (by omega) hlt I5 s14 fI4 fS4 hit4 pS.1 (.inr ⟨i, yb, ub, qb, hyb, rub, rfl, s24 _ _ hqb, fun j' hj' => ?_⟩)⟩
        by_cases e : j' = j
        · rw [e]; exact hlt'
        · exact hbest j' (by omega)
theorem minK_call {pins : List (Addr × Obj)} {σ : St} {H1 : Hp} {s : Shared} {Q : VK} {a : Addr} {xs : List V} {kf : Nat → List Int} (F : FnOk X.prog X.w X.K X.mg X.base CX0 k f fd [p] sp) (hr : Room (k + 1) X.A) (hb : Binds X.K fd [p] []) (hc : X.calm = true)
    (I : Inv X pins σ H1 s) (M : MinK X.K sp H1 a xs kf Q) : wpAny (model X.prog X.w) X.A (call (.builtin "min") [.ref a] [(Str.ofString "key", .ref f), (Str.ofString "default", .none)]) (EP X pins σ Q) X.xe s := by
  have hname : (toString "min" ++ toString ".loop" : String) = "min.loop" := by decide
  obtain ⟨vs, rv, hl, _⟩ := I.list M.1
  refine kmk_tree PySem.F.kind_min PySem.F.plain_min PySem.F.entry_min (args_minK _ _ _) ?_
  show wpAny _ X.A.in1 (Builtin.Builtins.bindParams "min" ["key", "default"] 0 ⟨[], [(Str.ofString "key", .ref f), (Str.ofString "default", .none)]⟩ >>= _) _ _ s
  refine wpAny_bind (wpAny_of_eq (show Builtin.Builtins.bindParams "min" ["key", "default"] 0 ⟨[], [(Str.ofString "key", .ref f), (Str.ofString "default", .none)]⟩ = pure [some (.ref f), some .none] from rfl) ?_)
  refine wpAny_bind (wpAny_pure ?_)
  refine wpAny_bind (wpAny_pyIter_list hl.isList ?_)
  refine wpAny_bind (wpAny_newList ?_ (Nat.zero_le _))
  rw [hname]
  have hS : (s.heap.push { cls := .type "list_iterator", data := .fields #[.ref a, .int 0 0] }).objs.size = s.heap.objs.size + 1 := size_push' ..
  have I2 : Inv X pins σ H1 { s with heap := (s.heap.push { cls := .type "list_iterator", data := .fields #[.ref a, .int 0 0] }).push (seqObj "list" #[] 0) } := I.kept (t' := s.toks) fun b o e => Heap.get?_push_of_some _ (Heap.get?_push_of_some _ e)
  refine wpAny_pure ⟨plainId_quiet PySem.F.plain_min_loop _, ?_⟩
  refine minK_loop F hr hb hc M (Nat.ne_of_gt (by rw [hS]; exact Nat.lt_succ_self _)) _ 0 _ H1 #[] 0 rfl (Nat.zero_le _) I2 (Same.refl _) (I.fpOk (Nat.le_refl _) (I.hok.fresh (Nat.le_refl _))) (I.fpOk (by rw [hS]; exact Nat.le_succ _) (I.hok.fresh (by rw [hS]; exact Nat.le_succ _)))
    ⟨_, Heap.get?_push_of_some _ (Heap.get?_push_size _ rfl), rfl, rfl⟩ (Heap.get?_push_size _ rfl) (.inl ⟨rfl, rfl⟩)
/-- min(e, key=f, default=None) -/
def tMinK (K : PySem.W.Frag) (sp : Sp) (t : TA) : TE := fun σ H Q => t σ H fun vs H1 => ∃ (a : Addr) (xs : List V) (kf : Nat → List Int), vs = [.ref a] ∧ MinK K sp H1 a xs kf Q
theorem pe_minK {fn : Str} {e : Expr} {t : TA} {p0 pos pf kp1 kp2 pc : Pos} {jc : Nat} (F : FnOk X.prog X.w X.K X.mg X.base CX0 k f fd [p] sp) (hr : Room (k + 1) X.A) (hb : Binds X.K fd [p] []) (hc : X.calm = true) (hg : Gl X "min") (hm : X.mg "min" = none) (hgf : Gl X fn) (hmf : X.mg fn = some (.ref f))
    (ha : PA X [e] t) (hdb : (fn == ("__debug__" : Str)) = false := by decide) (he : backTo pos (starEach [e] X.env) = (false, eval e X.env) :: backTo pos (starEach [] X.env) := by rfl) (hpl : (backTo pos (starEach [e] X.env)).any (·.1) = false := by rfl) :
    PE X (.Call (.Name "min" p0) [e] [⟨some "key", .Name fn pf, kp1⟩, ⟨some "default", .Constant .none jc pc, kp2⟩] pos) (tMinK X.K sp t) := by
  intro pins s σ H Q I h
  refine wpAny_Call_Name_kw (ld_blt I hg hm (by decide +kernel : bootBuiltins "min" = some (.builtin "min")) ?_)
  have hkw : PK X [⟨some "key", .Name fn pf, kp1⟩, ⟨some "default", .Constant .none jc pc, kp2⟩] (tCons (tC (.ref f)) (tCons (tC .non) tNil)) := pk_cons (pe_glob hgf hmf rfl hdb) (pk_cons pe_non pk_nil)
  refine callWith_kw (thn (ha pos pins s σ H _ I h) fun us s1 ⟨vs, H1, I1, r, q⟩ => ?_) he hpl
  obtain ⟨a, xs, kf, rfl, M⟩ := q
  refine thn (hkw pos pins s1 σ H1 (fun ws H2 => ws = [.ref f, .non] ∧ H2 = H1) I1 ⟨rfl, rfl⟩) fun ws s2 ⟨zs, H2, I2, rz, ez, e2⟩ => ?_
  subst ez e2
  cases rz with
  | cons r1 rt =>
    cases rt with
    | cons r2 rt2 =>
      cases rt2
      cases r1
      cases r2
      rw [Vals.ref1 r]
      exact minK_call F hr hb hc I2 M
end
end L2

set_option Elab.async false
set_option linter.all false
set_option maxRecDepth 100000
set_option maxHeartbeats 4000000
/-! comprehensions over zip and enumerate of lists -/
namespace L2
open PySem PySem.Spec PyProof.Rows
/-- what is asked of a comprehension's walk J -/
def LcW (J : It) (g : TG) (tt : TT) (te : TE) (vs : List Nat) (σ : St) (H1 : Hp) (D : Addr) (Qd : Hp → Prop) : Prop :=
  ∃ W : Nat → Nat → Hp → Prop, (∃ m, W 0 m (upd H1 D (.lst []))) ∧ ∀ i m H, W i m H →
    (J.stop i H ∧ Qd H) ∨ (J.go i H ∧ ∃ Nx : Hp → Prop, (∀ H', Nx H' → ∃ m', m' < m ∧ W (i + 1) m' H') ∧ ∀ x H', J.yld i H x H' → g x (wipe σ vs) H' fun σ2 H2 => wipe σ2 vs = wipe σ vs ∧ tt σ2 H2 fun b H3 =>
      if b = true then te σ2 H3 fun y H4 => ∃ acc, H4 D = some (.lst acc) ∧ acc.length < sizeLine ∧ Nx (upd H4 D (.lst (acc ++ [y]))) else Nx H3)
theorem lc_zip {K : PySem.W.Frag} {a b : Addr} {xs ys : List V} {g : TG} {tt : TT} {te : TE} {vs : List Nat} {σ : St} {H1 : Hp} {D : Addr} {Qd : Hp → Prop} (hlen : xs.length = ys.length) (Pv : Nat → Hp → Prop) (h0 : Pv 0 (upd H1 D (.lst [])))
    (hl : ∀ i H, i ≤ xs.length → Pv i H → SqL K H a xs ∧ SqL K H b ys)
    (hs : ∀ i x y T H, xs[i]? = some x → ys[i]? = some y → Pv i H → H T = none → g (.ref T) (wipe σ vs) (upd H T (.tup [x, y])) fun σ2 H2 => wipe σ2 vs = wipe σ vs ∧ tt σ2 H2 fun b H3 =>
      if b = true then te σ2 H3 fun y H4 => ∃ acc, H4 D = some (.lst acc) ∧ acc.length < sizeLine ∧ Pv (i + 1) (upd H4 D (.lst (acc ++ [y]))) else Pv (i + 1) H3) (hd : ∀ H, Pv xs.length H → Qd H) :
    LcW (Itz K a b) g tt te vs σ H1 D Qd := by
  refine ⟨fun i m H => m = xs.length - i ∧ i ≤ xs.length ∧ Pv i H, ⟨xs.length, by simp, Nat.zero_le _, h0⟩, ?_⟩
  rintro i m H ⟨rfl, hi, p⟩
  obtain ⟨q1, q2⟩ := hl i H hi p
  by_cases hlt : i < xs.length
  · have hlt2 : i < ys.length := by omega
    refine .inr ⟨⟨xs, ys, xs[i], ys[i], q1, q2, by simp [hlt], by simp [hlt2]⟩, Pv (i + 1), fun H' p' => ⟨xs.length - (i + 1), by omega, rfl, hlt, p'⟩, fun x H' z => ?_⟩
    obtain ⟨T, x1, y1, rfl, hT, rfl, e1, e2⟩ := z
    exact hs i x1 y1 T H (e1 xs q1) (e2 ys q2) p hT
  · have e : i = xs.length := by omega
    subst e
    exact .inl ⟨⟨xs, ys, q1, q2, .inl (Nat.le_refl _)⟩, hd H p⟩
theorem lc_enum {K : PySem.W.Frag} {a : Addr} {xs : List V} {g : TG} {tt : TT} {te : TE} {vs : List Nat} {σ : St} {H1 : Hp} {D : Addr} {Qd : Hp → Prop} (Pv : Nat → Hp → Prop) (h0 : Pv 0 (upd H1 D (.lst [])))
    (hl : ∀ i H, i ≤ xs.length → Pv i H → SqL K H a xs)
    (hs : ∀ i x T H, xs[i]? = some x → Pv i H → H T = none → g (.ref T) (wipe σ vs) (upd H T (.tup [.int (i : Nat), x])) fun σ2 H2 => wipe σ2 vs = wipe σ vs ∧ tt σ2 H2 fun b H3 =>
      if b = true then te σ2 H3 fun y H4 => ∃ acc, H4 D = some (.lst acc) ∧ acc.length < sizeLine ∧ Pv (i + 1) (upd H4 D (.lst (acc ++ [y]))) else Pv (i + 1) H3) (hd : ∀ H, Pv xs.length H → Qd H) :
    LcW (Ite K a) g tt te vs σ H1 D Qd := by
  refine ⟨fun i m H => m = xs.length - i ∧ i ≤ xs.length ∧ Pv i H, ⟨xs.length, by simp, Nat.zero_le _, h0⟩, ?_⟩
  rintro i m H ⟨rfl, hi, p⟩
  have q1 := hl i H hi p
  by_cases hlt : i < xs.length
  · refine .inr ⟨⟨xs, xs[i], q1, by simp [hlt]⟩, Pv (i + 1), fun H' p' => ⟨xs.length - (i + 1), by omega, rfl, hlt, p'⟩, fun x H' z => ?_⟩
    obtain ⟨T, x1, rfl, hT, rfl, e1⟩ := z
    exact hs i x1 T H (e1 xs q1) p hT
  · have e : i = xs.length := by omega
    subst e
    exact .inl ⟨⟨xs, q1, Nat.le_refl _⟩, hd H p⟩
end L2

set_option Elab.async false
set_option linter.all false
set_option maxRecDepth 100000
set_option maxHeartbeats 2000000
/-! grip: strings_as_told, string_numbers, sounding_pitches, fingers -/
namespace Cg
open PySem PySem.Spec PyProof.Rows L2 Rd
structure TxtG (mg : Str → Option Value) : Prop where
  ms : ∃ t, mg "MOST_STRINGS" = some (.int 6 t)
  hp : ∃ t, mg "HIGHEST_PITCH" = some (.int 100 t)
  ng : ∃ t, mg "NO_GRIP" = some (.int (-61) t)
  lp : ∃ t, mg "LAST_POSITION" = some (.int 9 t)
  fr : ∃ t, mg "FRETS_AT_A_POSITION" = some (.int 4 t)
  si : ∃ t, mg "MOST_SILENT" = some (.int 2 t)
  fi : ∃ t, mg "MOST_FINGERS" = some (.int 4 t)
  sil : ∃ t, mg "SILENT_STRING" = some (.int 0 t)
  opn : ∃ t, mg "OPEN_STRING" = some (.int 1 t)
  min : mg "min" = none
  max : mg "max" = none
  set : mg "set" = none
  sum : mg "sum" = none
  zip : mg "zip" = none
def ic (u : List Nat) : List Int := u.map fun n => ((n : Nat) : Int)
theorem iv_ic (u : List Nat) : iv u = (ic u).map V.int := by
  unfold iv ic
  rw [List.map_map]
  rfl
theorem ic_len (u : List Nat) : (ic u).length = u.length := List.length_map ..
def spSAT (K : PySem.W.Frag) : Sp := fun vs H Q _ => ∃ (a : Addr) (u : By), vs = [.ref a] ∧ SqL K H a (iv u) ∧ ∀ H' : Hp, Same H H' → Q (.bl (Kyg.okTuning u)) H'
def spStr (K : PySem.W.Frag) : Sp := fun vs H Q _ => ∃ (p x : Nat) (d : Addr) (had : List Nat), vs = [.int ((p : Nat) : Int), .int ((x : Nat) : Int), .ref d] ∧ SqL K H d (iv had) ∧
  ∀ (H' : Hp) (l : Addr), Same H H' → H l = none → H' l = some (.lst (iv (strNums p x had))) → Q (.ref l) H'
def spSound (K : PySem.W.Frag) : Sp := fun vs H Q _ => ∃ (n d : Addr) (g u : List Nat), vs = [.ref n, .ref d] ∧ SqL K H n (iv g) ∧ SqL K H d (iv u) ∧ g.length = u.length ∧ g.length ≤ 6 ∧
  ∀ (H' : Hp) (l : Addr), Same H H' → H l = none → H' l = some (.lst (iv (Kyg.sounds u g))) → Q (.ref l) H'
def spFing (K : PySem.W.Frag) : Sp := fun vs H Q _ => ∃ (n : Addr) (g : List Nat), vs = [.ref n] ∧ SqL K H n (iv g) ∧ g.length ≤ 6 ∧ ∀ H' : Hp, Same H H' → Q (.int ((Kyg.fingers g : Nat) : Int)) H'
theorem in_iv (t : Nat) (w : List Nat) : inV (.int ((t : Nat) : Int)) (iv w) = w.contains t := by
  rw [Bool.eq_iff_iff, List.contains_iff_mem]
  unfold inV iv
  rw [List.any_eq_true]
  constructor
  · rintro ⟨x, hx, e⟩
    obtain ⟨m, hm, rfl⟩ := List.mem_map.mp hx
    have em : m = t := by
      have := of_decide_eq_true (show decide ((m : Int) = (t : Int)) = true by simpa [eqV] using e)
      omega
    rw [← em]
    exact hm
  · intro h
    exact ⟨.int ((t : Nat) : Int), List.mem_map.mpr ⟨t, h, rfl⟩, by simp [eqV]⟩
theorem ok_tun (u : By) : Kyg.okTuning u = true ↔ 1 ≤ u.length ∧ u.length ≤ 6 ∧ ∀ x, x ∈ u → x ≤ 100 := by
  unfold Kyg.okTuning
  rw [Bool.and_eq_true, Bool.and_eq_true, List.all_eq_true]
  simp only [decide_eq_true_eq]
  exact ⟨fun h => ⟨h.1.1, h.1.2, h.2⟩, fun h => ⟨⟨h.1, h.2.1⟩, h.2.2⟩⟩
section
variable {P : Program} {w : World} {K : PySem.W.Frag} {mg : Str → Option Value} {base : Heap}
/-! strings_as_told -/
theorem scSAT : FnScope ["tuning"] ["tuning"] (defScope sSAT) := ⟨rfl, rfl, rfl, by decide +kernel, rfl, by decide +kernel, by decide +kernel⟩
theorem ok_sat {f : Addr} {fd : FuncData} (F : Fun K "strings_as_told" "strings_as_told" sSAT f fd) (T : Txt K mg) (TG : TxtG mg) : FnOk P w K mg base CX0 1 f fd ["tuning"] (spSAT K) := by
  refine F.ok scSAT (fun vs H Q E h => ?_) (fun cdv A outer s H vs Q E hr h => ?_)
  · obtain ⟨a, u, rfl, _⟩ := h
    rfl
  · obtain ⟨a, u, rfl, hS, k⟩ := h
    refine ⟨_, pss_one (ps_ret (pe_and (pe_chain op_le op_le pe_int (pe_callB call_len_seq rfl T.len boot_len (pa_cons (pv 0) pa_nil)) (pe_gi rfl TG.ms)) (pe_one (pe_cmpR op_le (pe_callB (cr_max rfl) rfl TG.max (by decide +kernel) (pa_cons (pv 0) pa_nil)) (pe_gi rfl TG.hp) (nomark _))))), ?_⟩
    have q := k H (Same.refl H)
    have hi := ok_tun u
    refine ⟨_, rfl, a, _, rfl, .inl hS, _, _, rfl, rfl, _, rfl, iteD (fun e => ?_) (fun e => ?_)⟩
    · rw [iv_len] at e
      refine ⟨_, _, rfl, rfl, _, rfl, iteD (fun e2 => ?_) (fun e2 => ?_)⟩
      · rw [iv_len] at e2
        rw [iv_ic] at hS
        refine ⟨_, rfl, a, _, rfl, hS, (by rw [ic_len]; omega), fun m hm hmax => ⟨_, _, rfl, rfl, ?_⟩⟩
        obtain ⟨n, hn, rfl⟩ := List.mem_map.mp hm
        have z : decide (((n : Nat) : Int) ≤ 100) = Kyg.okTuning u := by
          rw [Bool.eq_iff_iff, decide_eq_true_eq, hi]
          constructor
          · intro h
            refine ⟨by omega, by omega, fun x hx => ?_⟩
            have := hmax _ (List.mem_map.mpr ⟨x, hx, rfl⟩)
            omega
          · intro h
            have := h.2.2 n hn
            omega
        rw [← z] at q
        exact q
      · rw [iv_len] at e2
        have z : Kyg.okTuning u = false := by
          rw [← Bool.not_eq_true, hi]
          omega
        rw [z] at q
        exact q
    · rw [iv_len] at e
      have z : Kyg.okTuning u = false := by
        rw [← Bool.not_eq_true, hi]
        omega
      rw [z] at q
      exact ⟨_, rfl, iteF q⟩
/-! string_numbers -/
theorem scStr : FnScope ["position", "pitch", "had", "frets", "further", "fret"] ["position", "pitch", "had"] (defScope sStr) := ⟨rfl, rfl, rfl, by decide +kernel, rfl, by decide +kernel, by decide +kernel⟩
theorem ok_str {f : Addr} {fd : FuncData} (F : Fun K "string_numbers" "string_numbers" sStr f fd) (TT : TxtT K mg) (TK : TxtK K mg) (TG : TxtG mg) : FnOk P w K mg base CX0 1 f fd ["position", "pitch", "had"] (spStr K) := by
  refine F.ok scStr (fun vs H Q E h => ?_) (fun cdv A outer s H vs Q E hr h => ?_)
  · obtain ⟨p, x, d, had, rfl, _⟩ := h
    rfl
  · obtain ⟨p, x, d, had, rfl, hS, k⟩ := h
    have b1 : blkC ["position", "pitch", "had", "frets", "further", "fret"] (defScope sStr) { kind := .function, names := [(".0", .local), ("further", .local), ("position", .free)], isGenerator := false, isCoroutine := false } [("further", 4)] = true := by decide +kernel
    have b2 : blkC ["position", "pitch", "had", "frets", "further", "fret"] (defScope sStr) { kind := .function, names := [(".0", .local), ("fret", .local), ("ALL_TONES", .globalImplicit), ("OPEN_STRING", .globalImplicit), ("had", .free), ("pitch", .free)], isGenerator := false, isCoroutine := false } [("fret", 5)] = true := by decide +kernel
    refine ⟨_, pss_cons (ps_set (i := 3) scStr.nd rfl (Or.inl rfl) (pe_op op_cat (pe_lst (pa_cons pe_int pa_nil)) (pe_lc (own := [("further", 4)]) rfl scStr.nd (pi_range2 rfl TK.range (pa_cons pe_int (pa_cons (pe_op op_add (pe_gi rfl TG.fr) pe_int) pa_nil))) (blkOk_by b1) (fun _ _ _ _ _ => pg_name (i := 4) scStr.nd rfl (Or.inl rfl)) (fun _ _ _ _ _ => pts_nil)
          (fun _ _ _ _ _ => pe_op op_add (pv 0) (pv 4)))))
      (pss_one (ps_ret (pe_op op_cat (pe_lst (pa_cons (pe_gi rfl TG.sil) pa_nil)) (pe_lc (own := [("fret", 5)]) rfl scStr.nd (pi_list (pv 3)) (blkOk_by b2) (fun _ _ _ _ _ => pg_name (i := 5) scStr.nd rfl (Or.inl rfl))
          (fun _ _ _ _ _ => pts_one (pt_cmpR (r := rIn K false) op_in_seq (pe_op op_mod (pe_op op_add (pv 1) (pv 5)) (pe_gi rfl TT.all12)) (pv 2) (by with_unfolding_all rfl)))
          (fun _ _ _ _ _ => pe_op op_add (pv 5) (pe_gi rfl TG.opn)))))), ?_⟩
    -- frets = [0] + [..]
    refine ⟨(by show 1 ≤ sizeLine; decide), fun p0 hp0 => ?_⟩
    have s0 : Same H (upd H p0 (.lst [V.int 0])) := Same.new hp0
    refine ⟨_, _, rfl, rfl, 1, 5, rfl, ⟨by decide, by decide, by decide, by decide⟩, fun D hD => ?_⟩
    have hD0 : p0 ≠ D := ne_of_none upd_same hD
    refine lc_range (lo := 1) (n := 4) (fun i H' => H' D = some (.lst (iv ((List.range i).map fun k => p + (1 + k)))) ∧ H' p0 = some (.lst [V.int 0]) ∧ Same H H') ⟨upd_same, by rw [upd_ne hD0]; exact upd_same, s0.trans (Same.new hD)⟩ ?_ ?_
    · rintro i H1 hi ⟨h1, h2, h3⟩
      refine ⟨rfl, tYes_if ?_⟩
      refine ⟨_, rfl, _, rfl, _, _, rfl, rfl, _, h1, ?_, ?_, ?_, h3.put (s0.free hD)⟩
      · rw [iv_len, List.length_map, List.length_range]
        exact Nat.lt_of_lt_of_le hi (by decide)
      · rw [upd_same, List.range_succ, List.map_append, List.map_singleton, iv_snoc]
        rfl
      · rw [upd_ne hD0]
        exact h2
    · rintro H1 ⟨h1, h2, h3⟩
      refine ⟨p0, D, _, _, rfl, rfl, h2, h1, (by show 1 + 4 ≤ sizeLine; decide), fun q hq => ?_⟩
      have e1 : [V.int 0] ++ iv ((List.range 4).map fun k => p + (1 + k)) = iv (frets p) := by
        unfold frets iv
        simp [List.range_succ]
        try omega
      have s1 : Same H (upd H1 q (.lst (iv (frets p)))) := h3.trans (Same.new hq)
      rw [e1]
      -- return [SILENT_STRING] + [..]
      refine ⟨(by show 1 ≤ sizeLine; decide), fun r hr' => ?_⟩
      have hqr : q ≠ r := ne_of_none upd_same hr'
      have s2 : Same H (upd (upd H1 q (.lst (iv (frets p)))) r (.lst [V.int 0])) := s1.trans (Same.new hr')
      have hq2 : upd (upd H1 q (.lst (iv (frets p)))) r (.lst [V.int 0]) q = some (.lst (iv (frets p))) := by rw [upd_ne hqr]; exact upd_same
      refine ⟨_, rfl, q, rfl, ⟨_, SqL.of hq2⟩, fun D2 hD2 => ?_⟩
      have n1 : r ≠ D2 := ne_of_none upd_same hD2
      have n2 : q ≠ D2 := ne_of_none hq2 hD2
      refine lc_list (K := K) (a := q) (xs := iv (frets p)) (fun i H' => H' D2 = some (.lst (iv ((((frets p).take i).filter fun f => had.contains ((x + f) % 12)).map fun f => f + 1))) ∧ H' r = some (.lst [V.int 0]) ∧ H' q = some (.lst (iv (frets p))) ∧ Same H H')
        ⟨upd_same, by rw [upd_ne n1]; exact upd_same, by rw [upd_ne n2]; exact hq2, s2.trans (Same.new hD2)⟩ (fun i H' _ ⟨_, _, z, _⟩ => SqL.of z) ?_ ?_
      · rintro i v H3 hv ⟨g1, g2, g3, g4⟩
        obtain ⟨fr, hfr, rfl⟩ := iv_get hv
        have hi4 : i < (frets p).length := (List.getElem?_eq_some_iff.mp hfr).1
        refine ⟨rfl, _, rfl, _, rfl, _, _, rfl, rfl, _, _, rfl, rfl, (by show (0 : Int) < 12; decide), _, rfl, d, _, rfl, .inl (g4.seq hS), rfl, flat_iv _, _, rfl, ?_⟩
        have e2 : (((x : Nat) : Int) + ((fr : Nat) : Int)) % 12 = (((x + fr) % 12 : Nat) : Int) := by omega
        show if inV (.int ((((x : Nat) : Int) + ((fr : Nat) : Int)) % 12)) (iv had) = true then _ else _
        rw [e2, in_iv]
        by_cases ht : had.contains ((x + fr) % 12) = true
        · rw [if_pos ht]
          refine ⟨_, rfl, _, _, rfl, rfl, _, g1, ?_, ?_, ?_, ?_, g4.put (s2.free hD2)⟩
          · rw [iv_len, List.length_map]
            have := List.length_filter_le (fun f => had.contains ((x + f) % 12)) ((frets p).take i)
            rw [List.length_take] at this
            exact Nat.lt_of_le_of_lt (show _ ≤ 5 by have : (frets p).length = 5 := rfl; omega) (by decide)
          · rw [upd_same, take_snoc hfr, filt_snoc, if_pos ht, List.map_append, List.map_singleton, iv_snoc]
            rfl
          · rw [upd_ne n1]; exact g2
          · rw [upd_ne n2]; exact g3
        · rw [if_neg ht]
          refine ⟨?_, g2, g3, g4⟩
          rw [take_snoc hfr, filt_snoc, if_neg ht]
          exact g1
      · rintro H3 ⟨g1, g2, g3, g4⟩
        rw [iv_len, List.take_length] at g1
        refine ⟨r, D2, _, _, rfl, rfl, g2, g1, ?_, fun z hz => ?_⟩
        · rw [iv_len, List.length_map]
          have := List.length_filter_le (fun f => had.contains ((x + f) % 12)) (frets p)
          exact Nat.le_trans (show 1 + _ ≤ 6 by have : (frets p).length = 5 := rfl; omega) (by decide)
        · refine k _ z (g4.trans (Same.new hz)) (g4.free hz) ?_
          rw [upd_same]
          rfl
end
end Cg

set_option Elab.async false
set_option linter.all false
set_option maxRecDepth 100000
set_option maxHeartbeats 2000000
/-! grip: sounding_pitches, fingers -/
namespace Cg
open PySem PySem.Spec PyProof.Rows L2 Rd
theorem sounds_nil (u : List Nat) : Kyg.sounds u [] = [] := by
  unfold Kyg.sounds
  simp
theorem sounds_snoc : ∀ {u g : List Nat} {i x f : Nat}, u[i]? = some x → g[i]? = some f → Kyg.sounds (u.take (i + 1)) (g.take (i + 1)) = if f = 0 then Kyg.sounds (u.take i) (g.take i) else Kyg.sounds (u.take i) (g.take i) ++ [x + f - 1]
  | [], _, _, _, _, h, _ => by simp at h
  | _ :: _, [], _, _, _, _, h => by simp at h
  | a :: u, b :: g, 0, x, f, h, h' => by
    have e1 : a = x := Option.some.inj h
    have e2 : b = f := Option.some.inj h'
    subst e1 e2
    show Kyg.sounds [a] [b] = if b = 0 then Kyg.sounds [] [] else Kyg.sounds [] [] ++ [a + b - 1]
    rw [sounds_cons]
    rfl
  | a :: u, b :: g, i + 1, x, f, h, h' => by
    have ih := sounds_snoc (u := u) (g := g) (i := i) (x := x) (f := f) h h'
    show Kyg.sounds (a :: u.take (i + 1)) (b :: g.take (i + 1)) = if f = 0 then Kyg.sounds (a :: u.take i) (b :: g.take i) else Kyg.sounds (a :: u.take i) (b :: g.take i) ++ [x + f - 1]
    rw [sounds_cons, sounds_cons, ih]
    by_cases z : b = 0 <;> by_cases y : f = 0 <;> simp [z, y]
theorem sounds_len (u g : List Nat) : (Kyg.sounds u g).length ≤ g.length := by
  unfold Kyg.sounds
  refine Nat.le_trans (List.length_filterMap_le _ _) ?_
  rw [List.length_zip]
  exact Nat.min_le_right _ _
theorem plcs_take {f i x : Nat} {g : List Nat} (h : g[i]? = some x) : plcs f 0 (g.take (i + 1)) = if x = f then plcs f 0 (g.take i) ++ [i] else plcs f 0 (g.take i) := by
  have hl : i < g.length := (List.getElem?_eq_some_iff.mp h).1
  rw [take_snoc h, plcs_app, List.length_take, Nat.min_eq_left (by omega), Nat.zero_add]
  show _ ++ (if x = f then [i] else []) = _
  by_cases z : x = f
  · rw [if_pos z, if_pos z]
  · rw [if_neg z, if_neg z, List.append_nil]
theorem fret_take {i x : Nat} {g : List Nat} (h : g[i]? = some x) : Kyg.fretted (g.take (i + 1)) = if 2 ≤ x then Kyg.fretted (g.take i) ++ [x] else Kyg.fretted (g.take i) := by
  unfold Kyg.fretted
  rw [take_snoc h, filt_snoc]
  by_cases z : 2 ≤ x
  · rw [if_pos (decide_eq_true z), if_pos z]
  · rw [if_neg (by simpa using z), if_neg z]
theorem plcs_bound (f : Nat) : ∀ (l : List Nat) (i j : Nat), j ∈ plcs f i l → i ≤ j ∧ j < i + l.length
  | [], i, j, h => by cases h
  | x :: l, i, j, h => by
    have h : j ∈ (if x = f then i :: plcs f (i + 1) l else plcs f (i + 1) l) := h
    rw [List.length_cons]
    by_cases z : x = f
    · rw [if_pos z] at h
      rcases List.mem_cons.mp h with rfl | h
      · omega
      · have := plcs_bound f l (i + 1) j h
        omega
    · rw [if_neg z] at h
      have := plcs_bound f l (i + 1) j h
      omega
theorem at_last {α : Type} {l : List α} {x : α} (h : l.getLast? = some x) : atI l (-1) = some x := by
  rw [List.getLast?_eq_getElem?] at h
  have hl := (List.getElem?_eq_some_iff.mp h).1
  unfold atI ixN
  rw [if_neg (by decide), if_pos (by omega)]
  show l[((-1 : Int) + (l.length : Int)).toNat]? = _
  rw [show ((-1 : Int) + (l.length : Int)).toNat = l.length - 1 by omega]
  exact h
theorem cut_mid {w : List Nat} {a b : Nat} (ha : a ≤ w.length) (hb : b ≤ w.length) : cutV (iv w) (some ((a : Nat) : Int)) (some ((b : Nat) : Int)) = iv ((w.take b).drop a) := by
  unfold cutV
  rw [HT.sIx_nat, HT.sIx_nat, iv_len, Nat.min_eq_left ha, Nat.min_eq_left hb]
  unfold iv
  rw [← List.map_drop, ← List.map_take]
  congr 1
  rw [List.drop_take]
section
variable {P : Program} {w : World} {K : PySem.W.Frag} {mg : Str → Option Value} {base : Heap}
/-! sounding_pitches -/
theorem scSound : FnScope ["numbers", "tuning", "pitch", "number"] ["numbers", "tuning"] (defScope sSound) := ⟨rfl, rfl, rfl, by decide +kernel, rfl, by decide +kernel, by decide +kernel⟩
theorem ok_sound {f : Addr} {fd : FuncData} (F : Fun K "sounding_pitches" "sounding_pitches" sSound f fd) (TG : TxtG mg) : FnOk P w K mg base CX0 1 f fd ["numbers", "tuning"] (spSound K) := by
  refine F.ok scSound (fun vs H Q E h => ?_) (fun cdv A outer s H vs Q E hr h => ?_)
  · obtain ⟨n, d, g, u, rfl, _⟩ := h
    rfl
  · obtain ⟨n, d, g, u, rfl, hN, hD, hgu, hlen, k⟩ := h
    have b1 : blkC ["numbers", "tuning", "pitch", "number"] (defScope sSound) { kind := .function, names := [(".0", .local), ("pitch", .local), ("number", .local), ("SILENT_STRING", .globalImplicit), ("OPEN_STRING", .globalImplicit)], isGenerator := false, isCoroutine := false } [("pitch", 2), ("number", 3)] = true := by decide +kernel
    refine ⟨_, pss_one (ps_ret (pe_lc (g := gTup K 2 (gCons (gName 2) (gCons (gName 3) gNil))) (own := [("pitch", 2), ("number", 3)]) rfl scSound.nd (pi_zip rfl TG.zip (pa_cons (pv 1) (pa_cons (pv 0) pa_nil))) (blkOk_by b1)
        (fun _ _ _ _ _ => pg_tup rfl (pgs_cons (pg_name (i := 2) scSound.nd rfl (Or.inl rfl)) (pgs_cons (pg_name (i := 3) scSound.nd rfl (Or.inl rfl)) pgs_nil)))
        (fun _ _ _ _ _ => pts_one (pt_cmpR op_ne (pv 3) (pe_gi rfl TG.sil) (nomark _)))
        (fun _ _ _ _ _ => pe_op op_sub (pe_op op_add (pv 2) (pv 3)) (pe_gi rfl TG.opn)))), ?_⟩
    refine ⟨_, rfl, _, rfl, d, n, _, _, rfl, hD, hN, fun D hD0 => ?_⟩
    refine lc_zip (K := K) (a := d) (b := n) (xs := iv u) (ys := iv g) (by rw [iv_len, iv_len, hgu]) (fun i H' => H' D = some (.lst (iv (Kyg.sounds (u.take i) (g.take i)))) ∧ Same H H') ⟨upd_same, Same.new hD0⟩ (fun i H' _ ⟨_, z⟩ => ⟨z.seq hD, z.seq hN⟩) ?_ ?_
    · rintro i x y Tt H1 hx hy ⟨h1, h2⟩ hT
      obtain ⟨pt, hpt, rfl⟩ := iv_get hx
      obtain ⟨nm, hnm, rfl⟩ := iv_get hy
      have hTD : D ≠ Tt := ne_of_none h1 hT
      have hst := sounds_snoc hpt hnm
      have hi : i < g.length := (List.getElem?_eq_some_iff.mp hnm).1
      have s3 : Same H (upd H1 Tt (.tup [.int ((pt : Nat) : Int), .int ((nm : Nat) : Int)])) := h2.trans (Same.new hT)
      refine ⟨Tt, _, rfl, SqT.of upd_same, rfl, _, _, rfl, _, _, rfl, rfl, rfl, ?_⟩
      refine ⟨_, rfl, rfl, _, rfl, ?_⟩
      by_cases z : nm = 0
      · rw [if_pos z] at hst
        subst z
        refine iteF ⟨?_, s3⟩
        rw [upd_ne hTD, hst]
        exact h1
      · rw [if_neg z] at hst
        have zz : (!decide (V.int ((nm : Nat) : Int) = V.int 0)) = true := by
          have : V.int ((nm : Nat) : Int) ≠ V.int 0 := fun e => z (by have := V.int.inj e; omega)
          simp [this]
        rw [if_pos zz]
        refine ⟨_, rfl, _, rfl, _, _, rfl, rfl, _, _, rfl, rfl, _, (by rw [upd_ne hTD]; exact h1), ?_, ?_, s3.put hD0⟩
        · rw [iv_len]
          have := sounds_len (u.take i) (g.take i)
          rw [List.length_take] at this
          exact Nat.lt_of_le_of_lt (show _ ≤ 6 by omega) (by decide)
        · have e : ((pt : Nat) : Int) + ((nm : Nat) : Int) - 1 = ((pt + nm - 1 : Nat) : Int) := by omega
          rw [upd_same, hst, iv_snoc, ← e]
    · rintro H1 ⟨h1, h2⟩
      rw [iv_len, List.take_length, List.take_of_length_le (by omega)] at h1
      exact k H1 D h2 hD0 h1
/-! fingers -/
theorem scFing : FnScope ["numbers", "at_frets", "lowest", "places", "number", "place"] ["numbers"] (defScope sFing) := ⟨rfl, rfl, rfl, by decide +kernel, rfl, by decide +kernel, by decide +kernel⟩
theorem ok_fing {f : Addr} {fd : FuncData} (F : Fun K "fingers" "fingers" sFing f fd) (T : Txt K mg) (TG : TxtG mg) : FnOk P w K mg base CX0 1 f fd ["numbers"] (spFing K) := by
  refine F.ok scFing (fun vs H Q E h => ?_) (fun cdv A outer s H vs Q E hr h => ?_)
  · obtain ⟨n, g, rfl, _⟩ := h
    rfl
  · obtain ⟨n, g, rfl, hN, hlen, k⟩ := h
    have b1 : blkC ["numbers", "at_frets", "lowest", "places", "number", "place"] (defScope sFing) { kind := .function, names := [(".0", .local), ("number", .local), ("OPEN_STRING", .globalImplicit)], isGenerator := false, isCoroutine := false } [("number", 4)] = true := by decide +kernel
    have b2 : blkC ["numbers", "at_frets", "lowest", "places", "number", "place"] (defScope sFing) { kind := .function, names := [(".0", .local), ("place", .local), ("number", .local), ("lowest", .free)], isGenerator := false, isCoroutine := false } [("place", 5), ("number", 4)] = true := by decide +kernel
    refine ⟨_, pss_cons (ps_setLc (i := 1) (own := [("number", 4)]) rfl scFing.nd rfl rfl (sw_true rfl rfl rfl (by decide +kernel)) (pi_list (pv 0)) (blkOk_by b1) (fun _ _ _ _ _ => pg_name (i := 4) scFing.nd rfl (Or.inl rfl)) (fun _ _ _ _ _ => pts_one (pt_cmpR op_gt (pv 4) (pe_gi rfl TG.opn) (nomark _))) (fun _ _ _ _ _ => pv 4))
      (pss_cons (ps_if (pt_cmpR op_eq (pe_callB call_len_seq rfl T.len boot_len (pa_cons (pv 1) pa_nil)) pe_int (nomark _)) (pss_one (ps_ret pe_int)) pss_nil)
      (pss_cons (ps_set (i := 2) scFing.nd rfl (Or.inr rfl) (pe_callB (cr_min rfl) rfl TG.min (by decide +kernel) (pa_cons (pv 1) pa_nil)))
      (pss_cons (ps_setLc (g := gTup K 2 (gCons (gName 5) (gCons (gName 4) gNil))) (i := 3) (own := [("place", 5), ("number", 4)]) rfl scFing.nd rfl rfl (sw_true rfl rfl rfl (by decide +kernel)) (pi_enum rfl T.enum (pa_cons (pv 0) pa_nil)) (blkOk_by b2)
        (fun _ _ _ _ _ => pg_tup rfl (pgs_cons (pg_name (i := 5) scFing.nd rfl (Or.inl rfl)) (pgs_cons (pg_name (i := 4) scFing.nd rfl (Or.inl rfl)) pgs_nil)))
        (fun _ _ _ _ _ => pts_one (pt_cmpR op_eq (pv 4) (pv 2) (nomark _))) (fun _ _ _ _ _ => pv 5))
      (pss_cons (ps_if (pt_cmpR op_in_seq (pe_gi rfl TG.opn) (pe_slice sl_list (pv 0) (po_some (pe_ix ix_list (pv 3) pe_int (fun _ _ => rfl))) (po_some (pe_ix ix_list (pv 3) (pe_un un_neg pe_int) (fun _ _ => rfl)))) (by with_unfolding_all rfl)) (pss_one (ps_ret (pe_callB call_len_seq rfl T.len boot_len (pa_cons (pv 1) pa_nil)))) pss_nil)
      (pss_one (ps_ret (pe_op op_add (pe_op op_sub (pe_callB call_len_seq rfl T.len boot_len (pa_cons (pv 1) pa_nil)) (pe_callB call_len_seq rfl T.len boot_len (pa_cons (pv 3) pa_nil))) pe_int))))))), ?_⟩
    -- at_frets
    refine ⟨_, rfl, n, rfl, ⟨_, hN⟩, fun D hD => ?_⟩
    refine lc_list (K := K) (a := n) (xs := iv g) (fun i H' => H' D = some (.lst (iv (Kyg.fretted (g.take i)))) ∧ Same H H') ⟨upd_same, Same.new hD⟩ (fun i H' _ ⟨_, z⟩ => z.seq hN) ?_ ?_
    · rintro i v H1 hv ⟨h1, h2⟩
      obtain ⟨x, hx, rfl⟩ := iv_get hv
      have hft := fret_take hx
      have hi : i < g.length := (List.getElem?_eq_some_iff.mp hx).1
      refine ⟨rfl, _, rfl, _, _, rfl, rfl, _, rfl, iteD (fun e => ?_) (fun e => ?_)⟩
      · rw [if_pos (by omega)] at hft
        refine ⟨_, rfl, _, h1, ?_, ?_, h2.put hD⟩
        · rw [iv_len]
          have := fretted_le (g.take i)
          rw [List.length_take] at this
          exact Nat.lt_of_le_of_lt (show _ ≤ 6 by omega) (by decide)
        · rw [upd_same, hft, iv_snoc]
      · rw [if_neg (by omega)] at hft
        refine ⟨?_, h2⟩
        rw [hft]
        exact h1
    rintro H1 ⟨hD1, s1⟩
    rw [iv_len, List.take_length] at hD1
    have hfl := fretted_le g
    -- if len(at_frets) == 0
    refine ⟨_, rfl, D, _, rfl, .inl (SqL.of hD1), rfl, _, rfl, iteD (fun e => ?_) (fun e => ?_)⟩
    · have z := V.int.inj e
      rw [iv_len] at z
      have ef : Kyg.fretted g = [] := List.length_eq_zero_iff.mp (by omega)
      have q := k H1 s1
      rw [fingers_nil ef] at q
      exact q
    have hpos : 0 < (Kyg.fretted g).length := by
      rcases Nat.eq_zero_or_pos (Kyg.fretted g).length with z | z
      · exact absurd (by rw [iv_len, z]; rfl) e
      · exact z
    -- lowest = min(at_frets)
    refine ⟨_, rfl, D, ic (Kyg.fretted g), rfl, (by rw [← iv_ic]; exact SqL.of hD1), (by rw [ic_len]; exact hpos), fun m hm hmin => ?_⟩
    obtain ⟨lo, hlo, rfl⟩ := List.mem_map.mp hm
    have hleast : ∀ y, y ∈ Kyg.fretted g → lo ≤ y := fun y hy => by
      have := hmin _ (List.mem_map.mpr ⟨y, hy, rfl⟩)
      omega
    have hlog := (List.mem_filter.mp (show lo ∈ g.filter _ from hlo)).1
    -- places
    refine ⟨_, rfl, n, _, rfl, s1.seq hN, fun D2 hD2 => ?_⟩
    have hDD : D ≠ D2 := ne_of_none hD1 hD2
    refine lc_enum (K := K) (a := n) (xs := iv g) (fun i H' => H' D2 = some (.lst (iv (plcs lo 0 (g.take i)))) ∧ H' D = some (.lst (iv (Kyg.fretted g))) ∧ Same H H') ⟨upd_same, by rw [upd_ne hDD]; exact hD1, s1.trans (Same.new hD2)⟩ (fun i H' _ ⟨_, _, z⟩ => z.seq hN) ?_ ?_
    · rintro i v Tt H2 hv ⟨h1, h2, h3⟩ hT
      obtain ⟨x, hx, rfl⟩ := iv_get hv
      have hpt := plcs_take (f := lo) hx
      have hi : i < g.length := (List.getElem?_eq_some_iff.mp hx).1
      have n1 : D2 ≠ Tt := ne_of_none h1 hT
      have n2 : D ≠ Tt := ne_of_none h2 hT
      have s3 : Same H (upd H2 Tt (.tup [.int ((i : Nat) : Int), .int ((x : Nat) : Int)])) := h3.trans (Same.new hT)
      refine ⟨Tt, _, rfl, SqT.of upd_same, rfl, _, _, rfl, _, _, rfl, rfl, rfl, ?_⟩
      refine ⟨_, rfl, _, rfl, rfl, _, rfl, iteD (fun e => ?_) (fun e => ?_)⟩
      · have ex : x = lo := by have := V.int.inj e; omega
        rw [if_pos ex] at hpt
        refine ⟨_, rfl, _, (by rw [upd_ne n1]; exact h1), ?_, ?_, ?_, s3.put (s1.free hD2)⟩
        · rw [iv_len, plcs_len]
          have := List.length_filter_le (fun x => x == lo) (g.take i)
          rw [List.length_take] at this
          exact Nat.lt_of_le_of_lt (show _ ≤ 6 by omega) (by decide)
        · rw [upd_same, hpt, iv_snoc]
        · rw [upd_ne hDD, upd_ne n2]
          exact h2
      · have ex : ¬ x = lo := fun z => e (by rw [z])
        rw [if_neg ex] at hpt
        refine ⟨?_, ?_, s3⟩
        · rw [upd_ne n1, hpt]
          exact h1
        · rw [upd_ne n2]
          exact h2
    rintro H2 ⟨hp2, hD2', s2⟩
    rw [iv_len, List.take_length] at hp2
    generalize hps : plcs lo 0 g = ps at hp2
    have hpl : ps.length = (g.filter fun x => x == lo).length := by rw [← hps, plcs_len]
    have hpp : 0 < ps.length := by
      rw [hpl]
      exact List.length_pos_iff.mpr (List.ne_nil_of_mem (List.mem_filter.mpr ⟨hlog, by simp⟩))
    obtain ⟨a, hda⟩ : ∃ a, ps.head? = some a := by
      cases ps with
      | nil => simp at hpp
      | cons a _ => exact ⟨a, rfl⟩
    obtain ⟨b, hlb⟩ : ∃ b, ps.getLast? = some b := ⟨_, List.getLast?_eq_some_getLast (List.length_pos_iff.mp hpp)⟩
    have ha0 : ps[0]? = some a := by rw [← hda]; exact (List.head?_eq_getElem? ..).symm
    have hb0 : ps[ps.length - 1]? = some b := by rw [← hlb, List.getLast?_eq_getElem?]
    have hab : a ≤ g.length ∧ b ≤ g.length := by
      have h1 := plcs_bound lo g 0 a (by rw [hps]; exact List.mem_of_getElem? ha0)
      have h2 := plcs_bound lo g 0 b (by rw [hps]; exact List.mem_of_getElem? hb0)
      omega
    have hfin := fingers_some hlo hleast hps hda hlb
    have hps6 : ps.length ≤ (Kyg.fretted g).length := by
      rw [hpl, ← fretted_of (g := g) (List.mem_filter.mp (show lo ∈ g.filter _ from hlo) |>.2 |> of_decide_eq_true)]
      exact List.length_filter_le _ _
    have hlast : atI (iv ps) (-1) = some (.int ((b : Nat) : Int)) := by
      refine at_last ?_
      unfold iv
      rw [List.getLast?_map, hlb]
      rfl
    -- if OPEN_STRING in numbers[places[0]:places[-1]]
    refine ⟨_, rfl, _, rfl, D2, _, 0, _, rfl, rfl, SqL.of hp2, at_of (j := 0) rfl (iv_at ha0), _, rfl, _, rfl, _, rfl, D2, _, _, _, rfl, rfl, SqL.of hp2, hlast, _, rfl, n, _, rfl, s2.seq hN, fun z hz => ⟨z, _, rfl, .inl (SqL.of upd_same), rfl, ?_, _, rfl, ?_⟩⟩
    · rw [cut_mid hab.1 hab.2]
      exact flat_iv _
    · rw [cut_mid hab.1 hab.2]
      have s4 : Same H (upd H2 z (.lst (iv ((g.take b).drop a)))) := s2.trans (Same.new hz)
      have nz1 : D ≠ z := ne_of_none hD2' hz
      have nz2 : D2 ≠ z := ne_of_none hp2 hz
      show if inV (.int ((1 : Nat) : Int)) (iv ((g.take b).drop a)) = true then _ else _
      rw [in_iv]
      have q := k _ s4
      rw [hfin] at q
      cases ho : ((g.take b).drop a).contains 1 with
      | true =>
        rw [ho, if_pos rfl] at q
        refine iteT ⟨_, rfl, D, _, rfl, .inl (SqL.of (by rw [upd_ne nz1]; exact hD2')), ?_⟩
        rw [iv_len]
        exact q
      | false =>
        rw [ho, if_neg (by decide)] at q
        refine iteF ⟨_, rfl, D, _, rfl, .inl (SqL.of (by rw [upd_ne nz1]; exact hD2')), _, rfl, D2, _, rfl, .inl (SqL.of (by rw [upd_ne nz2]; exact hp2)), _, _, rfl, rfl, _, _, rfl, rfl, ?_⟩
        rw [iv_len, iv_len]
        have e : (((Kyg.fretted g).length : Nat) : Int) - ((ps.length : Nat) : Int) + 1 = (((Kyg.fretted g).length - ps.length + 1 : Nat) : Int) := by omega
        rw [← e] at q
        exact q
end
end Cg

set_option Elab.async false
set_option linter.all false
set_option maxRecDepth 100000
set_option maxHeartbeats 2000000
/-! grip: grips_at -/
namespace Cg
open PySem PySem.Spec PyProof.Rows L2 Rd
def spGrips (K : PySem.W.Frag) : Sp := fun vs H Q _ => ∃ (p : Nat) (d e : Addr) (u : By) (c : Kyg.Chord), vs = [.int ((p : Nat) : Int), .ref d, .ref e] ∧ SqL K H d (iv u) ∧ u.length ≤ 6 ∧ SqL K H e (iv (Kyg.tones c)) ∧
  ∀ (H' : Hp) (l : Addr) (ps : List Addr), Same H H' → H' l = some (.lst (ps.map V.ref)) → RowsAt H' ps ((prG c p u).map iv) → Q (.ref l) H'
theorem count_silent : ∀ g : List Nat, (ic g).count 0 = Kyg.silent g
  | [] => rfl
  | x :: g => by
    have ih := count_silent g
    unfold ic Kyg.silent at ih ⊢
    rw [List.map_cons, List.count_cons, ih, List.filter_cons]
    by_cases z : x = 0
    · subst z
      simp
    · have h1 : ¬ (((x : Nat) : Int) == 0) = true := by simp; omega
      rw [if_neg h1, if_neg (by simpa using z)]
      rfl
theorem longer_snoc (fs : List Nat) (f : Nat) (gs : List Kyg.Grip) : longer (fs ++ [f]) gs = longer fs gs ++ gs.map fun g => g ++ [f] := by
  unfold longer
  rw [List.flatMap_append]
  simp
theorem fold_take {c : Kyg.Chord} {p i x : Nat} {u : List Nat} (h : u[i]? = some x) : (u.take (i + 1)).foldl (stepG c p) [[]] = stepG c p ((u.take i).foldl (stepG c p) [[]]) x := by
  rw [take_snoc h, List.foldl_append]
  rfl
theorem RowsAt.app {H : Hp} {ps qs : List Addr} {ws vs : List (List V)} (r : RowsAt H ps ws) (q : RowsAt H qs vs) : RowsAt H (ps ++ qs) (ws ++ vs) := by
  induction r with
  | nil => exact q
  | cons e t ih => exact .cons e ih
theorem row_at {gs : List (List Nat)} {m : Nat} {row : List V} (h : (gs.map iv)[m]? = some row) : ∃ g, gs[m]? = some g ∧ row = iv g := by
  rw [List.getElem?_map] at h
  cases eg : gs[m]? with
  | none => rw [eg] at h; cases h
  | some b => rw [eg] at h; exact ⟨b, rfl, (Option.some.inj h).symm⟩
section
variable {P : Program} {w : World} {K : PySem.W.Frag} {mg : Str → Option Value} {base : Heap}
theorem scGrips : FnScope ["position", "tuning", "had", "grips", "pitch", "longer", "number", "numbers"] ["position", "tuning", "had"] (defScope sGrips) := ⟨rfl, rfl, rfl, by decide +kernel, rfl, by decide +kernel, by decide +kernel⟩
theorem ok_grips {f fS : Addr} {fd fdS : FuncData} (F : Fun K "grips_at" "grips_at" sGrips f fd) (TG : TxtG mg) (GS : FnOk P w K mg base CX0 1 fS fdS ["position", "pitch", "had"] (spStr K)) (kS : PySem.W.keepIn K (.ref fS) = true) (bS : Binds K fdS ["position", "pitch", "had"] []) (mS : mg "string_numbers" = some (.ref fS)) :
    FnOk P w K mg base CX0 2 f fd ["position", "tuning", "had"] (spGrips K) := by
  refine F.ok scGrips (fun vs H Q E h => ?_) (fun cdv A outer s H vs Q E hr h => ?_)
  · obtain ⟨p, d, e, u, c, rfl, _⟩ := h
    rfl
  · obtain ⟨p, d, e, u, c, rfl, hU, hlen, hT, k⟩ := h
    have b1 : blkC ["position", "tuning", "had", "grips", "pitch", "longer", "number", "numbers"] (defScope sGrips) { kind := .function, names := [(".0", .local), ("numbers", .local), ("number", .free)], isGenerator := false, isCoroutine := false } [("numbers", 7)] = true := by decide +kernel
    have b2 : blkC ["position", "tuning", "had", "grips", "pitch", "longer", "number", "numbers"] (defScope sGrips) { kind := .function, names := [(".0", .local), ("numbers", .local), ("SILENT_STRING", .globalImplicit), ("MOST_SILENT", .globalImplicit)], isGenerator := false, isCoroutine := false } [("numbers", 7)] = true := by decide +kernel
    refine ⟨_, pss_cons (ps_set (i := 3) scGrips.nd rfl (Or.inl rfl) (pe_lst (pa_cons (pe_lst pa_nil) pa_nil)))
      (pss_cons (ps_for PassesOwn.never rfl (pi_list (pv 1)) (pg_name (i := 4) scGrips.nd rfl (Or.inl rfl))
        (pss_cons (ps_set (i := 5) scGrips.nd rfl (Or.inl rfl) (pe_lst pa_nil))
        (pss_cons (ps_for PassesOwn.never rfl (pi_list (pe_call GS hr rfl mS kS bS .nil pass0 (pa_cons (pv 0) (pa_cons (pv 4) (pa_cons (pv 2) pa_nil))))) (pg_name (i := 6) scGrips.nd rfl (Or.inr rfl))
          (pss_one (ps_expr (pe_bm PySem.F.plainAttrs_list PySem.F.slot_list_extend PySem.F.type_list_extend mt_extend (pv 5)
            (pa_cons (pe_lc (own := [("numbers", 7)]) rfl scGrips.nd (pi_list (pv 3)) (blkOk_by b1) (fun _ _ _ _ _ => pg_name (i := 7) scGrips.nd rfl (Or.inl rfl)) (fun _ _ _ _ _ => pts_nil) (fun _ _ _ _ _ => pe_op op_cat (pv 7) (pe_lst (pa_cons (pv 6) pa_nil)))) pa_nil)))))
        (pss_one (ps_setLc (tt := tTest (tOp (rI0 fun i j => V.bl (decide (i ≤ j))) (tBM K "list" (rCount K) (tVar 7) (tCons (tC (.int 0)) tNil)) (tC (.int 2)))) (i := 3) (own := [("numbers", 7)]) rfl scGrips.nd rfl rfl (sw_true rfl rfl rfl (by decide +kernel)) (pi_list (pv 5)) (blkOk_by b2) (fun _ _ _ _ _ => pg_name (i := 7) scGrips.nd rfl (Or.inl rfl))
          (fun _ _ _ _ _ => pts_one (pt_cmpR op_le (pe_bm PySem.F.plainAttrs_list PySem.F.slot_list_count PySem.F.type_list_count mt_countL (pv 7) (pa_cons (pe_gi rfl TG.sil) pa_nil)) (pe_gi rfl TG.si) (nomark _))) (fun _ _ _ _ _ => pv 7)))))
        )
      (pss_one (ps_ret (pv 3)))), ?_⟩
    -- grips = [[]]
    refine ⟨Nat.zero_le _, fun e0 he0 => ⟨(by show 1 ≤ sizeLine; decide), fun g0 hg0 => ?_⟩⟩
    have s0 : Same H (upd (upd H e0 (.lst [])) g0 (.lst [V.ref e0])) := (Same.new he0).trans (Same.new hg0)
    have n0 : e0 ≠ g0 := ne_of_none upd_same hg0
    -- for pitch in tuning
    refine ⟨_, rfl, d, rfl, ⟨_, s0.seq hU⟩, for_list (K := K) (a := d) (xs := iv u) (fun i σ H' => ∃ (gr : Addr) (ps : List Addr) (v4 v5 v6 : Option V), σ = [some (.int ((p : Nat) : Int)), some (.ref d), some (.ref e), some (.ref gr), v4, v5, v6, none] ∧
        H' gr = some (.lst (ps.map V.ref)) ∧ RowsAt H' ps (((u.take i).foldl (stepG c p) [[]]).map iv) ∧ Same H H')
      ⟨g0, [e0], none, none, none, rfl, upd_same, .cons (by rw [upd_ne n0]; exact upd_same) .nil, s0⟩ (fun i σ H' _ ⟨_, _, _, _, _, _, _, _, z⟩ => z.seq hU) ?_ ?_⟩
    · rintro i y σ H1 hi ⟨gr, ps, v4, v5, v6, rfl, hgr, rps, s1⟩
      obtain ⟨x, hx, rfl⟩ := iv_get hi
      have hfold := fold_take (c := c) (p := p) hx
      have hil : i < u.length := (List.getElem?_eq_some_iff.mp hx).1
      have hgl : ((u.take i).foldl (stepG c p) [[]]).length ≤ 46656 := prG_len c p (l := u.take i) (by rw [List.length_take]; omega)
      have hgm : ∀ g, g ∈ (u.take i).foldl (stepG c p) [[]] → g.length ≤ 6 := fun g hg => by
        have := fits_len c p ((mem_prG c p (u.take i) g).mp hg).1
        rw [List.length_take] at this
        omega
      generalize (u.take i).foldl (stepG c p) [[]] = gs at rps hfold hgl hgm
      have hpl : ps.length = gs.length := by rw [rps.length, List.length_map]
      -- longer = []
      refine ⟨Nat.zero_le _, fun L hL => ?_⟩
      have sL : Same H1 (upd H1 L (.lst [])) := Same.new hL
      -- for number in string_numbers(position, pitch, had)
      refine ⟨_, rfl, _, rfl, _, rfl, p, x, e, Kyg.tones c, rfl, (s1.trans sL).seq hT, fun H2 l s2 hl0 hl2 => ?_⟩
      rw [strNums_eq] at hl2
      have hml := mayBe_len c p x
      generalize hnums : Kyg.mayBe c p x = nums at hl2 hml
      have hlL : l ≠ L := fun z => by rw [z, upd_same] at hl0; cases hl0
      have hL2 : H2 L = some (.lst []) := s2 _ _ upd_same
      have s12 : Same H1 H2 := sL.trans s2
      refine ⟨l, rfl, ⟨_, SqL.of hl2⟩, for_list (K := K) (a := l) (xs := iv nums) (fun j σ H' => ∃ (qs : List Addr) (w6 : Option V), σ = [some (.int ((p : Nat) : Int)), some (.ref d), some (.ref e), some (.ref gr), some (.int ((x : Nat) : Int)), some (.ref L), w6, none] ∧
          H' L = some (.lst (qs.map V.ref)) ∧ RowsAt H' qs ((longer (nums.take j) gs).map iv) ∧ (∀ q, q ∈ qs → q ≠ L) ∧ H' l = some (.lst (iv nums)) ∧ Same H1 H')
        ⟨[], _, rfl, hL2, .nil, (fun q hq => by cases hq), hl2, s12⟩ (fun j σ H' _ ⟨_, _, _, _, _, _, z, _⟩ => SqL.of z) ?_ ?_⟩
      · rintro j v σ H3 hv ⟨qs, w6, rfl, hL3, rqs, hqL, hl3, s13⟩
        obtain ⟨nm, hnm, rfl⟩ := iv_get hv
        have hjl : j < nums.length := (List.getElem?_eq_some_iff.mp hnm).1
        have hlg : (longer (nums.take j) gs).length ≤ 6 * 46656 := by
          rw [longer_len, List.length_take]
          exact Nat.mul_le_mul (by omega) hgl
        have hql : qs.length = (longer (nums.take j) gs).length := by rw [rqs.length, List.length_map]
        -- longer.extend([..])
        refine ⟨_, rfl, .inl ⟨rfl, _, SqL.of hL3⟩, _, rfl, gr, rfl, ⟨_, SqL.of (s13 _ _ hgr)⟩, fun D hD => ?_⟩
        refine lc_list (K := K) (a := gr) (xs := ps.map V.ref) (fun m H' => ∃ rs : List Addr, H' D = some (.lst (rs.map V.ref)) ∧ RowsAt H' rs ((gs.take m).map fun g => iv (g ++ [nm])) ∧ (∀ r, r ∈ rs → r ≠ D ∧ H3 r = none) ∧ Same H3 H')
          ⟨[], upd_same, .nil, (fun r hr => by cases hr), Same.new hD⟩ (fun m H' _ ⟨_, _, _, _, z⟩ => (s13.trans z).seq (SqL.of hgr)) ?_ ?_
        · rintro m v H4 hv4 ⟨rs, hD4, rrs, hrD, s34⟩
          obtain ⟨q, hq, rfl⟩ := refs_get hv4
          obtain ⟨row, hrow, hq1⟩ := rps.get hq
          obtain ⟨g, hg, rfl⟩ := row_at hrow
          have hq4 : H4 q = some (.lst (iv g)) := s34 _ _ (s13 _ _ hq1)
          have hgz := hgm g (List.mem_of_getElem? hg)
          refine ⟨rfl, tYes_if ?_⟩
          refine ⟨_, rfl, _, rfl, (by show 1 ≤ sizeLine; decide), fun t ht => ⟨q, t, _, _, rfl, rfl, (by rw [upd_ne (ne_of_none hq4 ht)]; exact hq4), upd_same, ?_, fun r hr' => ?_⟩⟩
          · rw [iv_len]
            exact Nat.le_trans (show g.length + 1 ≤ 7 by omega) (by decide)
          have s46 : Same H4 (upd (upd H4 t (.lst [V.int ((nm : Nat) : Int)])) r (.lst (iv g ++ [V.int ((nm : Nat) : Int)]))) := (Same.new ht).trans (Same.new hr')
          have hrD' : r ≠ D := Ne.symm (ne_of_none ((Same.new ht) _ _ hD4) hr')
          refine ⟨_, s46 _ _ hD4, ?_, rs ++ [r], ?_, ?_, ?_, (s34.trans s46).put hD⟩
          · rw [List.length_map, rrs.length, List.length_map, List.length_take]
            exact Nat.lt_of_le_of_lt (show min m gs.length ≤ 46656 by omega) (by decide)
          · rw [upd_same, refs_snoc]
          · rw [take_snoc hg, List.map_append]
            refine RowsAt.snoc ((rrs.same s46).mono fun z hz o ez => ?_) ?_
            · rw [upd_ne (hrD z hz).1]
              exact ez
            · rw [upd_ne hrD', upd_same]
              show some (HO.lst (iv g ++ [V.int ((nm : Nat) : Int)])) = some (HO.lst (iv (g ++ [nm])))
              rw [iv_snoc]
          · intro z hz
            rcases List.mem_append.mp hz with hz | hz
            · exact hrD z hz
            · rw [List.mem_singleton.mp hz]
              exact ⟨hrD', (s34.trans (Same.new ht)).free hr'⟩
        · rintro H4 ⟨rs, hD4, rrs, hrD, s34⟩
          rw [List.length_map, hpl, List.take_length] at rrs
          have hL4 := s34 _ _ hL3
          have hrl : rs.length = gs.length := by rw [rrs.length, List.length_map]
          have hrL : ∀ z, z ∈ rs → z ≠ L := fun z hz => Ne.symm (ne_of_none hL3 (hrD z hz).2)
          refine ⟨L, D, _, _, rfl, rfl, hL4, hD4, ?_, qs ++ rs, _, rfl, ?_, ?_, ?_, ?_, ?_⟩
          · rw [List.length_map, List.length_map, hql, hrl]
            exact Nat.le_trans (Nat.add_le_add hlg hgl) (by decide)
          · rw [upd_same, List.map_append]
          · rw [take_snoc hnm, longer_snoc, List.map_append, List.map_map]
            refine RowsAt.app ((rqs.same s34).mono fun z hz o ez => ?_) (rrs.mono fun z hz o ez => ?_)
            · rw [upd_ne (hqL z hz)]
              exact ez
            · rw [upd_ne (hrL z hz)]
              exact ez
          · intro z hz
            rcases List.mem_append.mp hz with hz | hz
            · exact hqL z hz
            · exact hrL z hz
          · rw [upd_ne hlL]
            exact s34 _ _ hl3
          · exact (s13.trans s34).put hL
      · rintro σ H3 ⟨qs, w6, rfl, hL3, rqs, hqL, hl3, s13⟩
        rw [iv_len, List.take_length] at rqs
        have hstep : stepG c p gs x = (longer nums gs).filter few := by
          unfold stepG
          rw [hnums]
        have hlg : (longer nums gs).length ≤ 6 * 46656 := by
          rw [longer_len]
          exact Nat.mul_le_mul hml hgl
        rw [hstep] at hfold
        generalize longer nums gs = lg at rqs hfold hlg
        have hql : qs.length = lg.length := by rw [rqs.length, List.length_map]
        -- grips = [numbers for numbers in longer if ..]
        refine ⟨_, rfl, L, rfl, ⟨_, SqL.of hL3⟩, fun D hD => ?_⟩
        refine lc_list (K := K) (a := L) (xs := qs.map V.ref) (fun m H' => ∃ rs : List Addr, H' D = some (.lst (rs.map V.ref)) ∧ RowsAt H' rs (((lg.take m).filter few).map iv) ∧ (∀ r, r ∈ rs → r ≠ D) ∧ Same H3 H')
          ⟨[], upd_same, .nil, (fun r hr => by cases hr), Same.new hD⟩ (fun m H' _ ⟨_, _, _, _, z⟩ => z.seq (SqL.of hL3)) ?_ ?_
        · rintro m v H4 hv4 ⟨rs, hD4, rrs, hrD, s34⟩
          obtain ⟨q, hq, rfl⟩ := refs_get hv4
          obtain ⟨row, hrow, hq1⟩ := rqs.get hq
          obtain ⟨g, hg, rfl⟩ := row_at hrow
          have hq4 : H4 q = some (.lst (iv g)) := s34 _ _ hq1
          have hqD : q ≠ D := ne_of_none hq1 hD
          have hml : m < lg.length := (List.getElem?_eq_some_iff.mp hg).1
          refine ⟨rfl, _, rfl, .inl ⟨rfl, _, SqL.of hq4⟩, q, ic g, 0, rfl, rfl, (by rw [← iv_ic]; exact SqL.of hq4), _, _, rfl, rfl, _, rfl, iteD (fun ec => ?_) (fun ec => ?_)⟩
          · rw [count_silent] at ec
            have hf : few g = true := decide_eq_true (by omega)
            refine ⟨_, rfl, _, hD4, ?_, rs ++ [q], ?_, ?_, ?_, s34.put hD⟩
            · rw [List.length_map, rrs.length, List.length_map]
              refine Nat.lt_of_le_of_lt (List.length_filter_le _ _) ?_
              rw [List.length_take]
              exact Nat.lt_of_le_of_lt (show min m lg.length ≤ 6 * 46656 by omega) (by decide)
            · rw [upd_same, refs_snoc]
            · rw [take_snoc hg, filt_snoc, if_pos hf, List.map_append]
              refine RowsAt.snoc (rrs.mono fun z hz o ez => ?_) ?_
              · rw [upd_ne (hrD z hz)]
                exact ez
              · rw [upd_ne hqD]
                exact hq4
            · intro z hz
              rcases List.mem_append.mp hz with hz | hz
              · exact hrD z hz
              · rw [List.mem_singleton.mp hz]
                exact hqD
          · rw [count_silent] at ec
            have hf : ¬ few g = true := fun z => ec (by have := of_decide_eq_true z; omega)
            refine ⟨rs, hD4, ?_, hrD, s34⟩
            rw [take_snoc hg, filt_snoc, if_neg hf]
            exact rrs
        · rintro H4 ⟨rs, hD4, rrs, hrD, s34⟩
          rw [List.length_map, hql, List.take_length] at rrs
          refine ⟨D, rs, _, _, _, rfl, hD4, ?_, (s1.trans s13).trans s34⟩
          rw [hfold]
          exact rrs
    · rintro σ H1 ⟨gr, ps, v4, v5, v6, rfl, hgr, rps, s1⟩
      rw [iv_len, List.take_length] at rps
      exact ⟨_, rfl, k H1 gr ps s1 hgr rps⟩
end
end Cg

set_option Elab.async false
set_option linter.all false
set_option maxRecDepth 100000
set_option maxHeartbeats 2000000
/-! grip: is_good, worth -/
namespace Cg
open PySem PySem.Spec PyProof.Rows L2 Rd
def spGood (K : PySem.W.Frag) : Sp := fun vs H Q _ => ∃ (n d e : Addr) (g u : List Nat) (c : Kyg.Chord), vs = [.ref n, .ref d, .ref e, .int ((Kyg.low c : Nat) : Int)] ∧ SqL K H n (iv g) ∧ SqL K H d (iv u) ∧ SqL K H e (iv (Kyg.tones c)) ∧
  g.length = u.length ∧ g.length ≤ 6 ∧ (∀ x, x ∈ Kyg.sounds u g → x % 12 ∈ Kyg.tones c) ∧ ∀ H' : Hp, Same H H' → Q (.bl (isGood c u g)) H'
def spWorth (K : PySem.W.Frag) : Sp := fun vs H Q _ => ∃ (n : Addr) (g : List Nat), vs = [.ref n] ∧ H n = some (.lst (iv g)) ∧ g.length ≤ 6 ∧
  ∀ (H' : Hp) (l : Addr), Same H H' → H l = none → H' l = some (.lst (iv (Kyg.key g))) → Q (.ref l) H'
/-! each once: as many are as many -/
theorem nodup_sub : ∀ {l m : List Int}, l.Nodup → (∀ x, x ∈ l → x ∈ m) → l.length ≤ m.length
  | [], m, _, _ => Nat.zero_le _
  | x :: l, m, h, hs => by
    obtain ⟨hx, hl⟩ := List.nodup_cons.mp h
    have hxm := hs x (by simp)
    have ih := nodup_sub (l := l) (m := m.erase x) hl fun y hy => (List.mem_erase_of_ne (fun z => hx (by rw [← z]; exact hy))).mpr (hs y (List.mem_cons_of_mem _ hy))
    rw [List.length_erase_of_mem hxm] at ih
    have : 0 < m.length := List.length_pos_iff.mpr (List.ne_nil_of_mem hxm)
    rw [List.length_cons]
    omega
theorem nodup_all {l m : List Int} (hl : l.Nodup) (hs : ∀ x, x ∈ l → x ∈ m) (he : l.length = m.length) (y : Int) (hy : y ∈ m) : y ∈ l := by
  by_cases z : y ∈ l
  · exact z
  · exfalso
    have := nodup_sub (l := y :: l) (m := m) (List.nodup_cons.mpr ⟨z, hl⟩) fun x hx => by
      rcases List.mem_cons.mp hx with rfl | hx
      · exact hy
      · exact hs x hx
    rw [List.length_cons] at this
    omega
theorem mem_ic {t : Nat} {l : List Nat} : ((t : Nat) : Int) ∈ ic l ↔ t ∈ l := by
  unfold ic
  constructor
  · intro h
    obtain ⟨m, hm, e⟩ := List.mem_map.mp h
    have : m = t := by omega
    rw [← this]; exact hm
  · intro h
    exact List.mem_map.mpr ⟨t, h, rfl⟩
/-- the two sets are one -/
theorem sets_one {c : Kyg.Chord} {s : List Nat} {ds es : List Int} (hsub : ∀ x, x ∈ s → x % 12 ∈ Kyg.tones c) (d1 : ds.Nodup) (d2 : ∀ k, k ∈ ds ↔ k ∈ ic (s.map fun x => x % 12)) (e1 : es.Nodup) (e2 : ∀ k, k ∈ es ↔ k ∈ ic (Kyg.tones c)) :
    (ds.length = es.length ∧ ∀ k, ds.any (· == k) = true → es.any (· == k) = true) ↔ allHeard c s = true := by
  have any_iff : ∀ (l : List Int) (k : Int), l.any (· == k) = true ↔ k ∈ l := fun l k => by
    rw [List.any_eq_true]
    exact ⟨fun ⟨x, hx, e⟩ => by rw [← (show x = k by simpa using e)]; exact hx, fun h => ⟨k, h, by simp⟩⟩
  rw [heard_iff c s hsub]
  constructor
  · rintro ⟨h1, h2⟩ t
    have hde : ∀ k, k ∈ ds → k ∈ es := fun k hk => (any_iff es k).mp (h2 k ((any_iff ds k).mpr hk))
    have hed : ∀ k, k ∈ es → k ∈ ds := fun k hk => nodup_all d1 hde h1 k hk
    constructor
    · intro ht
      exact mem_ic.mp ((e2 _).mp (hde _ ((d2 _).mpr (mem_ic.mpr ht))))
    · intro ht
      exact mem_ic.mp ((d2 _).mp (hed _ ((e2 _).mpr (mem_ic.mpr ht))))
  · intro h
    have hde : ∀ k, k ∈ ds ↔ k ∈ es := fun k => by
      rw [d2, e2]
      constructor
      · intro hk
        obtain ⟨m, hm, rfl⟩ := List.mem_map.mp hk
        exact mem_ic.mpr ((h m).mp hm)
      · intro hk
        obtain ⟨m, hm, rfl⟩ := List.mem_map.mp hk
        exact mem_ic.mpr ((h m).mpr hm)
    refine ⟨Nat.le_antisymm (nodup_sub d1 fun x hx => (hde x).mp hx) (nodup_sub e1 fun x hx => (hde x).mpr hx), fun k hk => ?_⟩
    rw [any_iff] at hk ⊢
    exact (hde k).mp hk
section
variable {P : Program} {w : World} {K : PySem.W.Frag} {mg : Str → Option Value} {base : Heap}
/-! is_good -/
theorem scGood : FnScope ["numbers", "tuning", "had", "bass", "pitches", "heard", "pitch"] ["numbers", "tuning", "had", "bass"] (defScope sGood) := ⟨rfl, rfl, rfl, by decide +kernel, rfl, by decide +kernel, by decide +kernel⟩
theorem ok_good {f fS fF : Addr} {fd fdS fdF : FuncData} (F : Fun K "is_good" "is_good" sGood f fd) (TT : TxtT K mg) (TG : TxtG mg) (GS : FnOk P w K mg base CX0 1 fS fdS ["numbers", "tuning"] (spSound K)) (kS : PySem.W.keepIn K (.ref fS) = true) (bS : Binds K fdS ["numbers", "tuning"] []) (mS : mg "sounding_pitches" = some (.ref fS))
    (GF : FnOk P w K mg base CX0 1 fF fdF ["numbers"] (spFing K)) (kF : PySem.W.keepIn K (.ref fF) = true) (bF : Binds K fdF ["numbers"] []) (mF : mg "fingers" = some (.ref fF)) :
    FnOk P w K mg base CX0 2 f fd ["numbers", "tuning", "had", "bass"] (spGood K) := by
  refine F.ok scGood (fun vs H Q E h => ?_) (fun cdv A outer s H vs Q E hr h => ?_)
  · obtain ⟨n, d, e, g, u, c, rfl, _⟩ := h
    rfl
  · obtain ⟨n, d, e, g, u, c, rfl, hN, hU, hT, hgu, hlen, hsub, k⟩ := h
    have b1 : blkC ["numbers", "tuning", "had", "bass", "pitches", "heard", "pitch"] (defScope sGood) { kind := .function, names := [(".0", .local), ("pitch", .local), ("ALL_TONES", .globalImplicit)], isGenerator := false, isCoroutine := false } [("pitch", 6)] = true := by decide +kernel
    refine ⟨_, pss_cons (ps_set (i := 4) scGood.nd rfl (Or.inl rfl) (pe_call GS hr rfl mS kS bS .nil pass0 (pa_cons (pv 0) (pa_cons (pv 1) pa_nil))))
      (pss_cons (ps_setLc (i := 5) (own := [("pitch", 6)]) rfl scGood.nd rfl rfl (sw_true rfl rfl rfl (by decide +kernel)) (pi_list (pv 4)) (blkOk_by b1) (fun _ _ _ _ _ => pg_name (i := 6) scGood.nd rfl (Or.inl rfl)) (fun _ _ _ _ _ => pts_nil) (fun _ _ _ _ _ => pe_op op_mod (pv 6) (pe_gi rfl TT.all12)))
      (pss_cons (ps_if (pt_cmpR (op_neSet hr.units0) (pe_callTy (call_set rfl) rfl TG.set (by decide +kernel) (pa_cons (pv 5) pa_nil)) (pe_callTy (call_set rfl) rfl TG.set (by decide +kernel) (pa_cons (pv 2) pa_nil)) (nomark _)) (pss_one (ps_ret pe_bl)) pss_nil)
      (pss_one (ps_ret (pe_and (pe_cmpR op_eq (pe_op op_mod (pe_callB (cr_min rfl) rfl TG.min (by decide +kernel) (pa_cons (pv 4) pa_nil)) (pe_gi rfl TT.all12)) (pv 3) (nomark _)) (pe_one (pe_cmpR op_le (pe_call GF hr rfl mF kF bF .nil pass0 (pa_cons (pv 0) pa_nil)) (pe_gi rfl TG.fi) (nomark _)))))))), ?_⟩
    -- pitches
    refine ⟨_, rfl, _, rfl, n, d, g, u, rfl, hN, hU, hgu, hlen, fun H1 l s1 hl0 hl => ?_⟩
    have hsl := sounds_len u g
    have hlow : ∀ m, m ∈ Kyg.sounds u g → (∀ y, y ∈ Kyg.sounds u g → m ≤ y) → Kyg.lowest (Kyg.sounds u g) = some m := fun m hm hy => lowest_spec hm hy
    have hgood : isGood c u g = (allHeard c (Kyg.sounds u g) && (match Kyg.lowest (Kyg.sounds u g) with
      | some x => x % 12 == Kyg.low c
      | none => false) && decide (Kyg.fingers g ≤ 4)) := rfl
    rw [hgood] at k
    generalize Kyg.sounds u g = sd at hl hsub hsl hlow k
    -- heard
    refine ⟨_, rfl, l, rfl, ⟨_, SqL.of hl⟩, fun D hD => ?_⟩
    refine lc_list (K := K) (a := l) (xs := iv sd) (fun i H' => H' D = some (.lst (iv ((sd.take i).map fun x => x % 12))) ∧ Same H1 H') ⟨upd_same, Same.new hD⟩ (fun i H' _ ⟨_, z⟩ => z.seq (SqL.of hl)) ?_ ?_
    · rintro i v H2 hv ⟨h1, h2⟩
      obtain ⟨x, hx, rfl⟩ := iv_get hv
      have hi : i < sd.length := (List.getElem?_eq_some_iff.mp hx).1
      refine ⟨rfl, tYes_if ?_⟩
      refine ⟨_, rfl, _, _, rfl, rfl, (by show (0 : Int) < 12; decide), _, h1, ?_, ?_, h2.put hD⟩
      · rw [iv_len, List.length_map, List.length_take]
        exact Nat.lt_of_le_of_lt (show min i sd.length ≤ 6 by omega) (by decide)
      · rw [upd_same, take_snoc hx, List.map_append, List.map_singleton, iv_snoc]
        rfl
    rintro H2 ⟨hD2, s2⟩
    rw [iv_len, List.take_length] at hD2
    have s02 : Same H H2 := s1.trans s2
    have hl2 := s2 _ _ hl
    -- if set(heard) != set(had)
    have tl := (show (Kyg.tones c).length ≤ 12 from by unfold Kyg.tones; exact Nat.le_trans (List.length_filter_le _ _) (by rw [List.length_range]; exact Nat.le_refl _))
    refine ⟨_, rfl, D, ic (sd.map fun x => x % 12), rfl, (by rw [← iv_ic]; exact SqL.of hD2), ?_, fun p1 ds hp1 d1 d2 => ?_⟩
    · rw [ic_len, List.length_map]
      exact Nat.lt_of_le_of_lt (show sd.length + 1 ≤ 7 by omega) (by decide)
    have s3 : Same H2 (upd H2 p1 (.set (fun k => ds.any (· == k)) ds.length)) := Same.new hp1
    refine ⟨_, rfl, e, ic (Kyg.tones c), rfl, (by rw [← iv_ic]; exact (s02.trans s3).seq hT), ?_, fun p2 es hp2 e1 e2 => ?_⟩
    · rw [ic_len]
      exact Nat.lt_of_le_of_lt (show (Kyg.tones c).length + 1 ≤ 13 by omega) (by decide)
    have hp12 : p1 ≠ p2 := ne_of_none upd_same hp2
    have s4 : Same H2 (upd (upd H2 p1 (.set (fun k => ds.any (· == k)) ds.length)) p2 (.set (fun k => es.any (· == k)) es.length)) := s3.trans (Same.new hp2)
    refine ⟨p1, p2, _, _, _, _, rfl, rfl, (by rw [upd_ne hp12]; exact upd_same), upd_same, fun r hr' => ⟨_, rfl, ?_⟩⟩
    rw [sets_one hsub d1 d2 e1 e2] at hr'
    cases r with
    | true =>
      have hno : allHeard c sd = false := by
        cases z : allHeard c sd with
        | false => rfl
        | true => exact absurd (hr'.mpr z) (by decide)
      have q := k _ (s02.trans s4)
      rw [hno] at q
      exact iteT q
    | false =>
      have hyes : allHeard c sd = true := hr'.mp rfl
      have hne := heard_ne hyes
      refine iteF ⟨_, rfl, l, ic sd, rfl, (by rw [← iv_ic]; exact SqL.of (s4 _ _ hl2)), (by rw [ic_len]; exact List.length_pos_iff.mpr hne), fun m hm hmin => ?_⟩
      obtain ⟨lo, hlo, rfl⟩ := List.mem_map.mp hm
      have hlw := hlow lo hlo fun y hy => by
        have := hmin _ (List.mem_map.mpr ⟨y, hy, rfl⟩)
        omega
      rw [hlw, hyes] at k
      refine ⟨_, _, rfl, rfl, (by show (0 : Int) < 12; decide), _, rfl, rfl, _, rfl, iteD (fun ec => ?_) (fun ec => ?_)⟩
      · have z : lo % 12 = Kyg.low c := by
          have := V.int.inj ec
          omega
        refine ⟨_, rfl, n, g, rfl, (s02.trans s4).seq hN, hlen, fun H5 s5 => ⟨_, _, rfl, rfl, ?_⟩⟩
        have q := k H5 ((s02.trans s4).trans s5)
        have e3 : (true && (lo % 12 == Kyg.low c) && decide (Kyg.fingers g ≤ 4)) = decide (((Kyg.fingers g : Nat) : Int) ≤ 4) := by
          rw [z, Bool.eq_iff_iff]
          simp
          omega
        rw [show (true && (match some lo with
          | some x => x % 12 == Kyg.low c
          | none => false) && decide (Kyg.fingers g ≤ 4)) = (true && (lo % 12 == Kyg.low c) && decide (Kyg.fingers g ≤ 4)) from rfl, e3] at q
        exact q
      · have z : (lo % 12 == Kyg.low c) = false := by
          rw [← Bool.not_eq_true]
          intro y
          have y' : lo % 12 = Kyg.low c := by simpa using y
          exact ec (congrArg V.int (show ((lo : Nat) : Int) % 12 = ((Kyg.low c : Nat) : Int) by omega))
        have q := k _ (s02.trans s4)
        rw [show (true && (match some lo with
          | some x => x % 12 == Kyg.low c
          | none => false) && decide (Kyg.fingers g ≤ 4)) = (true && (lo % 12 == Kyg.low c) && decide (Kyg.fingers g ≤ 4)) from rfl, z] at q
        exact q
/-! worth -/
theorem sum_eq (g : List Nat) : ∀ a : Nat, ((g.foldl (· + ·) a : Nat) : Int) = ((a : Nat) : Int) + (ic g).sum := by
  induction g with
  | nil => intro a; simp [ic]
  | cons x g ih =>
    intro a
    show ((g.foldl (· + ·) (a + x) : Nat) : Int) = _
    rw [ih]
    unfold ic
    rw [List.map_cons, List.sum_cons]
    omega
theorem scWorth : FnScope ["numbers"] ["numbers"] (defScope sWorth) := ⟨rfl, rfl, rfl, by decide +kernel, rfl, by decide +kernel, by decide +kernel⟩
theorem ok_worth {f fF : Addr} {fd fdF : FuncData} (F : Fun K "worth" "worth" sWorth f fd) (TG : TxtG mg) (GF : FnOk P w K mg base CX0 1 fF fdF ["numbers"] (spFing K)) (kF : PySem.W.keepIn K (.ref fF) = true) (bF : Binds K fdF ["numbers"] []) (mF : mg "fingers" = some (.ref fF)) :
    FnOk P w K mg base CX0 2 f fd ["numbers"] (spWorth K) := by
  refine F.ok scWorth (fun vs H Q E h => ?_) (fun cdv A outer s H vs Q E hr h => ?_)
  · obtain ⟨n, g, rfl, _⟩ := h
    rfl
  · obtain ⟨n, g, rfl, hN, hlen, k⟩ := h
    refine ⟨_, pss_one (ps_ret (pe_op op_cat (pe_lst (pa_cons (pe_bm PySem.F.plainAttrs_list PySem.F.slot_list_count PySem.F.type_list_count mt_countL (pv 0) (pa_cons (pe_gi rfl TG.sil) pa_nil)) (pa_cons (pe_call GF hr rfl mF kF bF .nil pass0 (pa_cons (pv 0) pa_nil)) (pa_cons (pe_callB (cr_sum rfl) rfl TG.sum (by decide +kernel) (pa_cons (pv 0) pa_nil)) pa_nil)))) (pv 0))), ?_⟩
    have hic : SqL K H n ((ic g).map V.int) := by rw [← iv_ic]; exact SqL.of hN
    refine ⟨_, rfl, .inl ⟨rfl, _, SqL.of hN⟩, n, ic g, 0, rfl, rfl, hic, _, rfl, n, g, rfl, SqL.of hN, hlen, fun H1 s1 => ⟨_, rfl, n, ic g, rfl, s1.seq hic, (by show 3 ≤ sizeLine; decide), fun q hq => ?_⟩⟩
    have hN1 := s1 _ _ hN
    refine ⟨_, rfl, q, n, _, _, rfl, rfl, upd_same, (by rw [upd_ne (ne_of_none hN1 hq)]; exact hN1), ?_, fun r hr' => ?_⟩
    · rw [iv_len]
      exact Nat.le_trans (show 3 + g.length ≤ 9 by omega) (by decide)
    · have s2 := (s1.trans (Same.new (o := .lst [V.int (((ic g).count 0 : Nat) : Int), V.int ((Kyg.fingers g : Nat) : Int), V.int (ic g).sum]) hq)).trans (Same.new (o := .lst ([V.int (((ic g).count 0 : Nat) : Int), V.int ((Kyg.fingers g : Nat) : Int), V.int (ic g).sum] ++ iv g)) hr')
      refine k _ r s2 ((s1.trans (Same.new (o := .lst [V.int (((ic g).count 0 : Nat) : Int), V.int ((Kyg.fingers g : Nat) : Int), V.int (ic g).sum]) hq)).free hr') ?_
      rw [upd_same, count_silent]
      have e := sum_eq g 0
      have e2 : (ic g).sum = ((Kyg.sum g : Nat) : Int) := by
        unfold Kyg.sum
        rw [e]
        simp
      rw [e2]
      rfl
end
end Cg

set_option Elab.async false
set_option linter.all false
set_option maxRecDepth 100000
set_option maxHeartbeats 2000000
/-! best_grip, grip -/
namespace Cg
open PySem PySem.Spec PyProof.Rows L2 Rd
def spBest (K : PySem.W.Frag) : Sp := fun vs H Q _ => ∃ (p : Nat) (d e : Addr) (u : By) (c : Kyg.Chord), vs = [.int ((p : Nat) : Int), .ref d, .ref e, .int ((Kyg.low c : Nat) : Int)] ∧ SqL K H d (iv u) ∧ u.length ≤ 6 ∧ SqL K H e (iv (Kyg.tones c)) ∧
  (∀ H' : Hp, Same H H' → bestAt c u p = none → Q .non H') ∧ ∀ (H' : Hp) (l : Addr) (g : Kyg.Grip), Same H H' → bestAt c u p = some g → g.length ≤ 6 → H' l = some (.lst (iv g)) → Q (.ref l) H'
def spGrip (K : PySem.W.Frag) : Sp := fun vs H Q _ => ∃ (a b : Addr) (t u : By), vs = [.ref a, .ref b] ∧ SqL K H a (iv t) ∧ SqL K H b (iv u) ∧ t.length ≤ 500 ∧ u.length ≤ 20 ∧
  ∀ (H' : Hp) (p : Addr), H' p = some (.lst ((grAns t u).map V.int)) → Q (.ref p) H'
theorem less_lex : ∀ {a b : List Nat}, a.length = b.length → Kyg.less a b = Gx.lexLt (ic a) (ic b)
  | [], [], _ => rfl
  | [], _ :: _, h => by cases h
  | _ :: _, [], h => by cases h
  | x :: a, y :: b, h => by
    have ih := less_lex (a := a) (b := b) (Nat.succ.inj h)
    show Kyg.less (x :: a) (y :: b) = Gx.lexLt (((x : Nat) : Int) :: ic a) (((y : Nat) : Int) :: ic b)
    rw [less_cons, Gx.lexLt_cons, ih]
    by_cases e : x = y
    · subst e
      rw [if_pos rfl]
      simp
    · rw [if_neg (by omega)]
      have h1 : (x == y) = false := by simpa using e
      rw [h1, Bool.false_and, Bool.or_false, Bool.eq_iff_iff]
      simp
      try omega
section
variable {P : Program} {w : World} {K : PySem.W.Frag} {mg : Str → Option Value} {base : Heap}
/-! best_grip -/
theorem scBest : FnScope ["position", "tuning", "had", "bass", "good", "numbers"] ["position", "tuning", "had", "bass"] (defScope sBest) := ⟨rfl, rfl, rfl, by decide +kernel, rfl, by decide +kernel, by decide +kernel⟩
theorem ok_best {f fG fI fW : Addr} {fd fdG fdI fdW : FuncData} (F : Fun K "best_grip" "best_grip" sBest f fd) (TG : TxtG mg)
    (GG : FnOk P w K mg base CX0 2 fG fdG ["position", "tuning", "had"] (spGrips K)) (kG : PySem.W.keepIn K (.ref fG) = true) (bG : Binds K fdG ["position", "tuning", "had"] []) (mG : mg "grips_at" = some (.ref fG))
    (GI : FnOk P w K mg base CX0 2 fI fdI ["numbers", "tuning", "had", "bass"] (spGood K)) (kI : PySem.W.keepIn K (.ref fI) = true) (bI : Binds K fdI ["numbers", "tuning", "had", "bass"] []) (mI : mg "is_good" = some (.ref fI))
    (GW : FnOk P w K mg base CX0 2 fW fdW ["numbers"] (spWorth K)) (kW : PySem.W.keepIn K (.ref fW) = true) (bW : Binds K fdW ["numbers"] []) (mW : mg "worth" = some (.ref fW)) :
    FnOk P w K mg base CX0 4 f fd ["position", "tuning", "had", "bass"] (spBest K) := by
  have GG3 : FnOk P w K mg base CX0 3 fG fdG ["position", "tuning", "had"] (spGrips K) := GG.mono (by decide)
  have GI3 : FnOk P w K mg base CX0 3 fI fdI ["numbers", "tuning", "had", "bass"] (spGood K) := GI.mono (by decide)
  refine F.ok scBest (fun vs H Q E h => ?_) (fun cdv A outer s H vs Q E hr h => ?_)
  · obtain ⟨p, d, e, u, c, rfl, _⟩ := h
    rfl
  · obtain ⟨p, d, e, u, c, rfl, hU, hlen, hT, kn, ks⟩ := h
    have b1 : blkC ["position", "tuning", "had", "bass", "good", "numbers"] (defScope sBest) { kind := .function, names := [(".0", .local), ("numbers", .local), ("is_good", .globalImplicit), ("bass", .free), ("had", .free), ("tuning", .free)], isGenerator := false, isCoroutine := false } [("numbers", 5)] = true := by decide +kernel
    refine ⟨_, pss_cons (ps_setLc (i := 4) (own := [("numbers", 5)]) rfl scBest.nd rfl rfl (sw_true rfl rfl rfl (by decide +kernel)) (pi_list (pe_call GG3 hr rfl mG kG bG .nil pass0 (pa_cons (pv 0) (pa_cons (pv 1) (pa_cons (pv 2) pa_nil))))) (blkOk_by b1) (fun _ _ _ _ _ => pg_name (i := 5) scBest.nd rfl (Or.inl rfl))
        (fun _ _ _ _ _ => pts_one (pt_val (pe_call GI3 hr rfl mI kI bI .nil pass0 (pa_cons (pv 5) (pa_cons (pv 1) (pa_cons (pv 2) (pa_cons (pv 3) pa_nil))))))) (fun _ _ _ _ _ => pv 5))
      (pss_one (ps_ret (pe_minK GW hr bW rfl rfl TG.min rfl mW (pa_cons (pv 4) pa_nil)))), ?_⟩
    refine ⟨_, rfl, _, rfl, _, rfl, p, d, e, u, c, rfl, hU, hlen, hT, fun H1 l ps s1 hl rps => ?_⟩
    have hgl := prG_len c p hlen
    have hmem := mem_prG c p u
    have hnone := bestAt_none (c := c) (l := u) (p := p)
    have hsome := fun r => bestAt_some (c := c) (l := u) (p := p) (r := r)
    generalize prG c p u = gs at rps hgl hmem hnone hsome
    have hpl : ps.length = gs.length := by rw [rps.length, List.length_map]
    have hg6 : ∀ g, g ∈ gs → g.length = u.length := fun g hg => fits_len c p ((hmem g).mp hg).1
    refine ⟨l, rfl, ⟨_, SqL.of hl⟩, fun D hD => ?_⟩
    refine lc_list (K := K) (a := l) (xs := ps.map V.ref) (fun m H' => ∃ rs : List Addr, H' D = some (.lst (rs.map V.ref)) ∧ RowsAt H' rs (((gs.take m).filter (isGood c u)).map iv) ∧ (∀ r, r ∈ rs → r ≠ D) ∧ Same H1 H')
      ⟨[], upd_same, .nil, (fun r hr => by cases hr), Same.new hD⟩ (fun m H' _ ⟨_, _, _, _, z⟩ => z.seq (SqL.of hl)) ?_ ?_
    · rintro m v H2 hv ⟨rs, hD2, rrs, hrD, s12⟩
      obtain ⟨q, hq, rfl⟩ := refs_get hv
      obtain ⟨row, hrow, hq1⟩ := rps.get hq
      obtain ⟨g, hg, rfl⟩ := row_at hrow
      have hq2 : H2 q = some (.lst (iv g)) := s12 _ _ hq1
      have hqD : q ≠ D := ne_of_none hq1 hD
      have hgm := List.mem_of_getElem? hg
      have hgu := hg6 g hgm
      have hml : m < gs.length := (List.getElem?_eq_some_iff.mp hg).1
      have s02 := s1.trans s12
      refine ⟨rfl, _, rfl, _, rfl, _, rfl, _, rfl, q, d, e, g, u, c, rfl, SqL.of hq2, s02.seq hU, s02.seq hT, hgu, by omega, sounds_has c p ((hmem g).mp hgm).1, fun H3 s23 => ⟨_, rfl, ?_⟩⟩
      have hD3 := s23 _ _ hD2
      show if isGood c u g = true then _ else _
      by_cases hf : isGood c u g = true
      · rw [if_pos hf]
        refine ⟨_, rfl, _, hD3, ?_, rs ++ [q], ?_, ?_, ?_, (s12.trans s23).put hD⟩
        · rw [List.length_map, rrs.length, List.length_map]
          refine Nat.lt_of_le_of_lt (List.length_filter_le _ _) ?_
          rw [List.length_take]
          exact Nat.lt_of_le_of_lt (show min m gs.length ≤ 46656 by omega) (by decide)
        · rw [upd_same, refs_snoc]
        · rw [take_snoc hg, filt_snoc, if_pos hf, List.map_append]
          refine RowsAt.snoc ((rrs.same s23).mono fun z hz o ez => ?_) ?_
          · rw [upd_ne (hrD z hz)]
            exact ez
          · rw [upd_ne hqD]
            exact s23 _ _ hq2
        · intro z hz
          rcases List.mem_append.mp hz with hz | hz
          · exact hrD z hz
          · rw [List.mem_singleton.mp hz]
            exact hqD
      · rw [if_neg hf]
        refine ⟨rs, hD3, ?_, hrD, s12.trans s23⟩
        rw [take_snoc hg, filt_snoc, if_neg hf]
        exact rrs.same s23
    · rintro H2 ⟨rs, hD2, rrs, hrD, s12⟩
      rw [List.length_map, hpl, List.take_length] at rrs
      have hgd : ∀ g, g ∈ gs.filter (isGood c u) → g.length = u.length := fun g hg => hg6 g (List.mem_filter.mp hg).1
      generalize gs.filter (isGood c u) = gd at rrs hnone hsome hgd
      have hrl : rs.length = gd.length := by rw [rrs.length, List.length_map]
      have s02 := s1.trans s12
      -- min(good, key=worth, default=None)
      refine ⟨_, rfl, D, rs.map V.ref, fun i => ic (Kyg.key (gd.getD i [])), rfl, SqL.of hD2, ?_, ?_, ?_⟩
      · intro i y H3 hy s23
        obtain ⟨q, hq, rfl⟩ := refs_get hy
        obtain ⟨row, hrow, hq1⟩ := rrs.get hq
        obtain ⟨g, hg, rfl⟩ := row_at hrow
        have hgm := hgd g (List.mem_of_getElem? hg)
        have eg : gd.getD i [] = g := by rw [List.getD_eq_getElem?_getD, hg]; rfl
        refine ⟨q, g, rfl, s23 _ _ hq1, by omega, fun H4 l4 s34 _ hl4 => ⟨l4, rfl, s34, ?_⟩⟩
        show H4 l4 = some (.lst ((ic (Kyg.key (gd.getD i []))).map V.int))
        rw [eg, ← iv_ic]
        exact hl4
      · intro e0 H3 s23
        have : gd = [] := by
          have h0 : rs.length = 0 := by
            have := congrArg List.length e0
            rw [List.length_map] at this
            exact this
          exact List.length_eq_zero_iff.mp (by omega)
        exact kn H3 (s02.trans s23) (hnone this)
      · intro i y H3 hy hmin s23
        obtain ⟨q, hq, rfl⟩ := refs_get hy
        obtain ⟨row, hrow, hq1⟩ := rrs.get hq
        obtain ⟨g, hg, rfl⟩ := row_at hrow
        have hgm := List.mem_of_getElem? hg
        have hgu := hgd g hgm
        have eg : gd.getD i [] = g := by rw [List.getD_eq_getElem?_getD, hg]; rfl
        refine ks H3 q g (s02.trans s23) (hsome g hgm fun y hy => ?_) (by omega) (s23 _ _ hq1)
        obtain ⟨j, hj⟩ := List.getElem?_of_mem hy
        have hjl : j < (rs.map V.ref).length := by
          rw [List.length_map, hrl]
          exact (List.getElem?_eq_some_iff.mp hj).1
        have ej : gd.getD j [] = y := by rw [List.getD_eq_getElem?_getD, hj]; rfl
        have : Gx.lexLt (ic (Kyg.key (gd.getD j []))) (ic (Kyg.key (gd.getD i []))) = false := hmin j hjl
        rw [ej, eg] at this
        rw [less_lex (by rw [key_len, key_len, hgd y hy, hgu])]
        exact this
/-! grip -/
theorem gripFrom_at (c : Kyg.Chord) (u : List Nat) : ∀ k p : Nat, (∀ j, p ≤ j → j < p + k → bestAt c u j = none) → Kyg.gripFrom c u k p = none
  | 0, p, _ => rfl
  | k + 1, p, h => by
    rw [gripFrom_succ, h p (Nat.le_refl _) (by omega)]
    exact gripFrom_at c u k (p + 1) fun j h1 h2 => h j (by omega) (by omega)
theorem gripFrom_some (c : Kyg.Chord) (u : List Nat) (i : Nat) (g : Kyg.Grip) : ∀ k p : Nat, p ≤ i → i < p + k → (∀ j, p ≤ j → j < i → bestAt c u j = none) → bestAt c u i = some g → Kyg.gripFrom c u k p = some (i, g)
  | 0, p, h1, h2, _, _ => absurd h2 (by omega)
  | k + 1, p, h1, h2, h, hg => by
    rw [gripFrom_succ]
    by_cases e : p = i
    · rw [e, hg]
    · rw [h p (Nat.le_refl _) (by omega)]
      exact gripFrom_some c u i g k (p + 1) (by omega) (by omega) (fun j h1 h2 => h j (by omega) h2) hg
theorem scGrip : FnScope ["t", "tuning", "chord", "had", "bass", "position", "best"] ["t", "tuning"] (defScope sGrip) := ⟨rfl, rfl, rfl, by decide +kernel, rfl, by decide +kernel, by decide +kernel⟩
theorem ok_grip {f fC fT fB fS fG : Addr} {fd fdC fdT fdB fdS fdG : FuncData} (F : Fun K "grip" "grip" sGrip f fd) (T : Txt K mg) (C : TxtC mg) (TK : TxtK K mg) (TG : TxtG mg)
    (GC : FnOk P w K mg base CX0 3 fC fdC ["part"] (spChord K)) (kC : PySem.W.keepIn K (.ref fC) = true) (bC : Binds K fdC ["part"] []) (mC : mg "read_chord" = some (.ref fC))
    (GT : FnOk P w K mg base CX0 3 fT fdT ["chord"] (spCT K)) (kT : PySem.W.keepIn K (.ref fT) = true) (bT : Binds K fdT ["chord"] []) (mT : mg "chord_tones" = some (.ref fT))
    (GB : FnOk P w K mg base CX0 2 fB fdB ["chord"] (spBT K)) (kB : PySem.W.keepIn K (.ref fB) = true) (bB : Binds K fdB ["chord"] []) (mB : mg "bass_tone" = some (.ref fB))
    (GS : FnOk P w K mg base CX0 1 fS fdS ["tuning"] (spSAT K)) (kS : PySem.W.keepIn K (.ref fS) = true) (bS : Binds K fdS ["tuning"] []) (mS : mg "strings_as_told" = some (.ref fS))
    (GG : FnOk P w K mg base CX0 4 fG fdG ["position", "tuning", "had", "bass"] (spBest K)) (kG : PySem.W.keepIn K (.ref fG) = true) (bG : Binds K fdG ["position", "tuning", "had", "bass"] []) (mG : mg "best_grip" = some (.ref fG)) :
    FnOk P w K mg base CX0 5 f fd ["t", "tuning"] (spGrip K) := by
  have GC4 : FnOk P w K mg base CX0 4 fC fdC ["part"] (spChord K) := GC.mono (by decide)
  have GT4 : FnOk P w K mg base CX0 4 fT fdT ["chord"] (spCT K) := GT.mono (by decide)
  have GB4 : FnOk P w K mg base CX0 4 fB fdB ["chord"] (spBT K) := GB.mono (by decide)
  have GS4 : FnOk P w K mg base CX0 4 fS fdS ["tuning"] (spSAT K) := GS.mono (by decide)
  refine F.ok scGrip (fun vs H Q E h => ?_) (fun cdv A outer s H vs Q E hr h => ?_)
  · obtain ⟨a, b, t, u, rfl, _⟩ := h
    rfl
  · obtain ⟨a, b, t, u, rfl, hS, hU, hlen, hul, k⟩ := h
    refine ⟨_, pss_cons (ps_if (PW.pt (pw_or (pt_cmpR op_gt (pe_callB call_len_seq rfl T.len boot_len (pa_cons (pv 0) pa_nil)) (pe_gi rfl C.most) (nomark _)) (pw_or1 (pt_not (pt_val (pe_call GS4 hr rfl mS kS bS .nil pass0 (pa_cons (pv 1) pa_nil)))))))
        (pss_one (ps_ret (pe_lst (pa_cons (pe_gi rfl C.told) pa_nil)))) pss_nil)
      (pss_cons (ps_set (i := 2) scGrip.nd rfl (Or.inl rfl) (pe_call GC4 hr rfl mC kC bC .nil pass0 (pa_cons (pv 0) pa_nil)))
      (pss_cons (ps_if (pt_cmp (pc_isN (pv 2))) (pss_one (ps_ret (pe_lst (pa_cons (pe_gi rfl C.nos) pa_nil)))) pss_nil)
      (pss_cons (ps_set (i := 3) scGrip.nd rfl (Or.inl rfl) (pe_call GT4 hr rfl mT kT bT .nil pass0 (pa_cons (pv 2) pa_nil)))
      (pss_cons (ps_set (i := 4) scGrip.nd rfl (Or.inl rfl) (pe_call GB4 hr rfl mB kB bB .nil pass0 (pa_cons (pv 2) pa_nil)))
      (pss_cons (ps_for PassesOwn.never rfl (pi_range1 rfl TK.range (pa_cons (pe_op op_add (pe_gi rfl TG.lp) pe_int) pa_nil)) (pg_name (i := 5) scGrip.nd rfl (Or.inl rfl))
        (pss_cons (ps_set (i := 6) scGrip.nd rfl (Or.inl rfl) (pe_call GG hr rfl mG kG bG .nil pass0 (pa_cons (pv 5) (pa_cons (pv 1) (pa_cons (pv 3) (pa_cons (pv 4) pa_nil))))))
        (pss_one (ps_if (pt_cmp (pc_notN (pv 6))) (pss_one (ps_ret (pe_op op_cat (pe_lst (pa_cons (pv 5) pa_nil)) (pv 6)))) pss_nil))))
      (pss_one (ps_ret (pe_lst (pa_cons (pe_gi rfl TG.ng) pa_nil))))))))), ?_⟩
    have told : (400 < t.length ∨ Kyg.okTuning u = false) → grAns t u = [-22] := fun z => by
      unfold grAns
      rw [if_pos z]
    refine ⟨_, rfl, a, _, rfl, .inl hS, _, _, rfl, rfl, _, rfl, iteD (fun e => ?_) (fun e => ?_)⟩
    · rw [iv_len] at e
      refine iteT ⟨(by show 1 ≤ sizeLine; decide), fun p hp => k _ p ?_⟩
      rw [told (.inl (by omega))]
      exact upd_same
    rw [iv_len] at e
    refine ⟨_, rfl, b, u, rfl, hU, fun H1 s1 => ⟨_, rfl, ?_⟩⟩
    cases hok : Kyg.okTuning u with
    | false =>
      refine iteT ⟨(by show 1 ≤ sizeLine; decide), fun p hp => k _ p ?_⟩
      rw [told (.inr hok)]
      exact upd_same
    | true =>
      refine iteF ?_
      have hu6 := ((ok_tun u).mp hok).2.1
      have hno : ¬ (400 < t.length ∨ Kyg.okTuning u = false) := by
        rintro (z | z)
        · omega
        · rw [hok] at z; cases z
      refine ⟨_, rfl, a, t, rfl, s1.seq hS, by omega, fun H2 s2 hn => ?_, fun H2 l cs s2 hl0 hs hl => ?_⟩
      · refine ⟨_, rfl, _, rfl, ifN (fun _ => ?_) (fun e => absurd rfl e)⟩
        refine ⟨(by show 1 ≤ sizeLine; decide), fun p hp => k _ p ?_⟩
        have z : grAns t u = [-71] := by
          unfold grAns
          rw [if_neg hno]
          rw [rdChord_eq] at hn
          cases e2 : Kyg.chordIn t with
          | none => rfl
          | some c => rw [e2] at hn; cases hn
        rw [z]
        exact upd_same
      · refine ⟨_, rfl, _, rfl, ifN (fun e => by cases e) (fun _ => ?_)⟩
        rw [rdChord_eq] at hs
        cases e2 : Kyg.chordIn t with
        | none => rw [e2] at hs; cases hs
        | some c =>
          rw [e2] at hs
          have ec : cs = Kyg.numbers c := (Option.some.inj hs).symm
          subst ec
          have hc := (chordIn_ok e2).1
          -- had, bass
          refine ⟨_, rfl, l, c, rfl, SqL.of hl, hc, fun H3 dd s3 _ hd => ?_⟩
          refine ⟨_, rfl, l, c, rfl, s3.seq (SqL.of hl), hc, fun H4 s4 => ?_⟩
          have s04 : Same H H4 := s1.trans (s2.trans (s3.trans s4))
          have hd4 := s4 _ _ hd
          -- for position in range(LAST_POSITION + 1)
          refine ⟨_, _, rfl, rfl, 10, rfl, by decide, by decide, for_range (lo := 0) (n := 10) (fun i σ H' => ∃ v5 v6 : Option V, σ = [some (.ref a), some (.ref b), some (.ref l), some (.ref dd), some (.int ((Kyg.low c : Nat) : Int)), v5, v6] ∧ Same H4 H' ∧ ∀ j, j < i → bestAt c u j = none)
            ⟨none, none, rfl, Same.refl _, fun j hj => absurd hj (Nat.not_lt_zero _)⟩ ?_ ?_⟩
          · rintro i σ H5 hi ⟨v5, v6, rfl, s5, hbn⟩
            refine ⟨_, rfl, _, rfl, _, rfl, _, rfl, i, b, dd, u, c, (by rw [Int.zero_add]; rfl), (s04.trans s5).seq hU, hu6, s5.seq (SqL.of hd4), fun H6 s6 hb => ?_, fun H6 l6 g s6 hb hg6 hl6 => ?_⟩
            · refine ⟨_, rfl, _, rfl, ?_⟩
              show if (!decide (V.non = V.non)) = true then _ else _
              rw [if_neg (by simp)]
              refine ⟨_, _, rfl, s5.trans s6, fun j hj => ?_⟩
              by_cases ej : j = i
              · rw [ej]; exact hb
              · exact hbn j (by omega)
            · refine ⟨_, rfl, _, rfl, ?_⟩
              show if (!decide (V.ref l6 = V.non)) = true then _ else _
              rw [if_pos (by simp)]
              refine ⟨_, rfl, (by show 1 ≤ sizeLine; decide), fun q hq => ?_⟩
              refine ⟨_, rfl, q, l6, _, _, rfl, rfl, upd_same, (by rw [upd_ne (ne_of_none hl6 hq)]; exact hl6), ?_, fun r hr' => k _ r ?_⟩
              · rw [iv_len]
                exact Nat.le_trans (show 1 + g.length ≤ 7 by omega) (by decide)
              · have hgr : Kyg.grip c u = some (i, g) := gripFrom_some c u i g 10 0 (Nat.zero_le _) (by omega) (fun j _ hj => hbn j hj) hb
                rw [upd_same, grAns_yes hno e2 hgr, Int.zero_add]
                show some (HO.lst ([V.int ((i : Nat) : Int)] ++ iv g)) = some (HO.lst ((((i : Nat) : Int) :: g.map fun (k : Nat) => (k : Int)).map V.int))
                rw [List.map_cons, List.map_map]
                rfl
          · rintro σ H5 ⟨v5, v6, rfl, s5, hbn⟩
            refine ⟨(by show 1 ≤ sizeLine; decide), fun p hp => k _ p ?_⟩
            have hgr : Kyg.grip c u = none := gripFrom_at c u 10 0 fun j _ hj => hbn j (by omega)
            rw [upd_same, grAns_no hno e2 hgr]
            rfl
end
end Cg

set_option Elab.async false
set_option linter.all false
set_option maxRecDepth 100000
set_option maxHeartbeats 2000000
/-! from the module's objects to the facts that the defs ask for, whatever the row -/
namespace Cg
open PySem PySem.Spec PyProof.Rows L2 Rd
theorem rel_abs {x : V} {u : Value} (h : absV u = some x) : RelV x u := by
  cases u <;> first | (cases h; first | rfl | exact ⟨_, rfl⟩) | cases h
theorem vals_abs : ∀ {us : List Value} {xs : List V}, us.map absV = xs.map some → Vals xs us
  | [], [], _ => .nil
  | [], _ :: _, h => by cases h
  | _ :: _, [], h => by cases h
  | u :: us, x :: xs, h => by
    rw [List.map_cons, List.map_cons] at h
    obtain ⟨h1, h2⟩ := List.cons.inj h
    exact .cons (rel_abs h1) (vals_abs h2)
theorem sqT_top {K : PySem.W.Frag} {a : Addr} {d : Option Addr} {its : Array Value} {n : Nat} {sl : Array (Option Value)} {xs : List V} (l : K.lookup a = some ⟨.type "tuple", d, .seq its n, sl⟩) (v : its.toList.map absV = xs.map some) (z : xs.length ≤ 1000) (H : Hp) : SqT K H a xs := by
  refine .inr ⟨_, its, n, l, rfl, rfl, ?_, vals_abs v⟩
  have e := congrArg List.length v
  rw [List.length_map, List.length_map, Array.length_toList] at e
  rw [e]
  exact Nat.le_trans z (by decide)
/-! a tuple of tuples of ints -/
def isTupO (o : Obj) : Bool := match o.cls with
  | .type n => n == "tuple"
  | _ => false
def itsO (o : Obj) : Option (List Value) := match o.data with
  | .seq its _ => some its.toList
  | _ => none
def tupIs (K : PySem.W.Frag) (a : Addr) (xs : List V) : Bool := match K.lookup a with
  | some o => isTupO o && (match itsO o with
    | some l => decide (l.map absV = xs.map some) && decide (xs.length ≤ 1000)
    | none => false)
  | none => false
theorem tupIs_of {K : PySem.W.Frag} {a : Addr} {xs : List V} (h : tupIs K a xs = true) (H : Hp) : SqT K H a xs := by
  unfold tupIs at h
  cases e : K.lookup a with
  | none => rw [e] at h; cases h
  | some o =>
    rw [e] at h
    change (isTupO o && (match itsO o with
      | some l => decide (l.map absV = xs.map some) && decide (xs.length ≤ 1000)
      | none => false)) = true at h
    rw [Bool.and_eq_true] at h
    obtain ⟨cls, d, data, sl⟩ := o
    obtain ⟨h1, h2⟩ := h
    have hc : cls = .type "tuple" := by
      unfold isTupO at h1
      simp only at h1
      split at h1
      · rw [eq_of_beq h1]
      · cases h1
    subst hc
    have hd : ∃ its n, data = .seq its n := by
      cases data <;> first | exact ⟨_, _, rfl⟩ | exact False.elim (Bool.false_ne_true h2)
    obtain ⟨its, n, rfl⟩ := hd
    simp only [itsO, Bool.and_eq_true] at h2
    exact sqT_top e (of_decide_eq_true h2.1) (of_decide_eq_true h2.2) H
def refsOf (K : PySem.W.Frag) (a : Addr) : List Addr := match K.lookup a with
  | some o => (match itsO o with
    | some l => l.filterMap fun v => match v with
      | .ref b => some b
      | _ => none
    | none => [])
  | none => []
/-- the tuple at a holds the tuples of rows -/
def nestOk (K : PySem.W.Frag) (a : Addr) (rows : List (List Nat)) : Bool :=
  tupIs K a ((refsOf K a).map V.ref) && decide ((refsOf K a).length = rows.length) && ((refsOf K a).zip rows).all fun p => tupIs K p.1 (iv p.2)
theorem nest_of {K : PySem.W.Frag} {a : Addr} {rows : List (List Nat)} (h : nestOk K a rows = true) : ∃ ps : List Addr, (∀ H, SqT K H a (ps.map V.ref)) ∧ ∀ k, k < rows.length → ∃ p, ps[k]? = some p ∧ ∀ H, SqT K H p (iv (rows.getD k [])) := by
  unfold nestOk at h
  rw [Bool.and_eq_true, Bool.and_eq_true] at h
  obtain ⟨⟨h1, h2⟩, h3⟩ := h
  have h2 := of_decide_eq_true h2
  refine ⟨refsOf K a, tupIs_of h1, fun k hk => ?_⟩
  have hk' : k < (refsOf K a).length := by omega
  refine ⟨(refsOf K a)[k], List.getElem?_eq_getElem hk', ?_⟩
  rw [List.all_eq_true] at h3
  have hm : ((refsOf K a)[k], rows[k]) ∈ (refsOf K a).zip rows := by
    rw [List.mem_iff_getElem?]
    exact ⟨k, by rw [List.getElem?_zip_eq_some]; exact ⟨List.getElem?_eq_getElem hk', List.getElem?_eq_getElem hk⟩⟩
  have := h3 _ hm
  rw [List.getD_eq_getElem?_getD, List.getElem?_eq_getElem hk]
  exact tupIs_of this
theorem nats_back {ns : List Int} (h : ∀ x, x ∈ ns → 0 ≤ x) : ns.map V.int = iv (KygNeutral.natsOf ns) := by
  unfold iv KygNeutral.natsOf
  rw [List.map_map]
  refine List.map_congr_left fun x hx => ?_
  show V.int x = V.int ((x.toNat : Nat) : Int)
  rw [Int.toNat_of_nonneg (h x hx)]
end Cg

set_option Elab.async false
set_option linter.all false
set_option maxRecDepth 100000
set_option maxHeartbeats 2000000
namespace Cg
open PySem PySem.Spec PyProof.Rows L2 Rd
open PySem.W (Codec)
theorem all_mk {P : Program} {w : World} {K : PySem.W.Frag} {h : Heap} {mg : Str → Option Value} {fa : Addr} (X : K.In h) (G : h.Ns mainGlobals mg) (hfa : mg "grip" = some (.ref fa))
    {od1 an1 : Option Addr} {sl1 : Array (Option Value)} {oc1 kV1 dc1 pm1 cd1 ct1 : Value} {f1 : Addr}
    {od2 an2 : Option Addr} {sl2 : Array (Option Value)} {oc2 kV2 dc2 pm2 cd2 ct2 : Value} {f2 : Addr}
    {od3 an3 : Option Addr} {sl3 : Array (Option Value)} {oc3 kV3 dc3 pm3 cd3 ct3 : Value} {f3 : Addr}
    {od4 an4 : Option Addr} {sl4 : Array (Option Value)} {oc4 kV4 dc4 pm4 cd4 ct4 : Value} {f4 : Addr}
    {od5 an5 : Option Addr} {sl5 : Array (Option Value)} {oc5 kV5 dc5 pm5 cd5 ct5 : Value} {f5 : Addr}
    {od6 an6 : Option Addr} {sl6 : Array (Option Value)} {oc6 kV6 dc6 pm6 cd6 ct6 : Value} {f6 : Addr}
    {od7 an7 : Option Addr} {sl7 : Array (Option Value)} {oc7 kV7 dc7 pm7 cd7 ct7 : Value} {f7 : Addr}
    {od8 an8 : Option Addr} {sl8 : Array (Option Value)} {oc8 kV8 dc8 pm8 cd8 ct8 : Value} {f8 : Addr}
    {od9 an9 : Option Addr} {sl9 : Array (Option Value)} {oc9 kV9 dc9 pm9 cd9 ct9 : Value} {f9 : Addr}
    {od10 an10 : Option Addr} {sl10 : Array (Option Value)} {oc10 kV10 dc10 pm10 cd10 ct10 : Value} {f10 : Addr}
    {od11 an11 : Option Addr} {sl11 : Array (Option Value)} {oc11 kV11 dc11 pm11 cd11 ct11 : Value} {f11 : Addr}
    {od12 an12 : Option Addr} {sl12 : Array (Option Value)} {oc12 kV12 dc12 pm12 cd12 ct12 : Value} {f12 : Addr}
    {od13 an13 : Option Addr} {sl13 : Array (Option Value)} {oc13 kV13 dc13 pm13 cd13 ct13 : Value} {f13 : Addr}
    {od14 an14 : Option Addr} {sl14 : Array (Option Value)} {oc14 kV14 dc14 pm14 cd14 ct14 : Value} {f14 : Addr}
    {od15 an15 : Option Addr} {sl15 : Array (Option Value)} {oc15 kV15 dc15 pm15 cd15 ct15 : Value} {f15 : Addr}
    {od16 an16 : Option Addr} {sl16 : Array (Option Value)} {oc16 kV16 dc16 pm16 cd16 ct16 : Value} {f16 : Addr}
    {od17 an17 : Option Addr} {sl17 : Array (Option Value)} {oc17 kV17 dc17 pm17 cd17 ct17 : Value} {f17 : Addr}
    {ti1 : Tok}
    {ti2 : Tok}
    {ti3 : Tok}
    {ti4 : Tok}
    {ti5 : Tok}
    {ti6 : Tok}
    {ti7 : Tok}
    {ti8 : Tok}
    {ti9 : Tok}
    {ti10 : Tok}
    {ti11 : Tok}
    {ti12 : Tok}
    {ti13 : Tok}
    {ti14 : Tok}
    {ti15 : Tok}
    {ti16 : Tok}
    {ti17 : Tok}
    {at1 : Addr} {dt1 : Option Addr} {it1 : Array Value} {nt1 : Nat} {st1 : Array (Option Value)}
    {at2 : Addr} {dt2 : Option Addr} {it2 : Array Value} {nt2 : Nat} {st2 : Array (Option Value)}
    {at3 : Addr} {dt3 : Option Addr} {it3 : Array Value} {nt3 : Nat} {st3 : Array (Option Value)}
    {at4 : Addr} {dt4 : Option Addr} {it4 : Array Value} {nt4 : Nat} {st4 : Array (Option Value)}
    {at5 : Addr} {dt5 : Option Addr} {it5 : Array Value} {nt5 : Nat} {st5 : Array (Option Value)}
    {an1' : Addr}
    (a1 : PySem.W.nsIn K mainGlobals "grip" = some (some (.ref f1))) (l1 : K.lookup f1 = some ⟨oc1, od1, .func (PySem.W.fnOf "grip" "grip" (defArgs sGrip) (defBody sGrip) (defScope sGrip) .none kV1 dc1 pm1 an1 cd1 ct1), sl1⟩) (c1 : PySem.W.codeIn K cd1 "grip" = true) (k1 : PySem.W.keepIn K (.ref f1) = true)
    (a2 : PySem.W.nsIn K mainGlobals "read_chord" = some (some (.ref f2))) (l2 : K.lookup f2 = some ⟨oc2, od2, .func (PySem.W.fnOf "read_chord" "read_chord" (defArgs sChord) (defBody sChord) (defScope sChord) .none kV2 dc2 pm2 an2 cd2 ct2), sl2⟩) (c2 : PySem.W.codeIn K cd2 "read_chord" = true) (k2 : PySem.W.keepIn K (.ref f2) = true)
    (a3 : PySem.W.nsIn K mainGlobals "note_end" = some (some (.ref f3))) (l3 : K.lookup f3 = some ⟨oc3, od3, .func (PySem.W.fnOf "note_end" "note_end" (defArgs sEnd) (defBody sEnd) (defScope sEnd) .none kV3 dc3 pm3 an3 cd3 ct3), sl3⟩) (c3 : PySem.W.codeIn K cd3 "note_end" = true) (k3 : PySem.W.keepIn K (.ref f3) = true)
    (a4 : PySem.W.nsIn K mainGlobals "read_note" = some (some (.ref f4))) (l4 : K.lookup f4 = some ⟨oc4, od4, .func (PySem.W.fnOf "read_note" "read_note" (defArgs sNote) (defBody sNote) (defScope sNote) .none kV4 dc4 pm4 an4 cd4 ct4), sl4⟩) (c4 : PySem.W.codeIn K cd4 "read_note" = true) (k4 : PySem.W.keepIn K (.ref f4) = true)
    (a5 : PySem.W.nsIn K mainGlobals "place_of" = some (some (.ref f5))) (l5 : K.lookup f5 = some ⟨oc5, od5, .func (PySem.W.fnOf "place_of" "place_of" (defArgs sPlace) (defBody sPlace) (defScope sPlace) .none kV5 dc5 pm5 an5 cd5 ct5), sl5⟩) (c5 : PySem.W.codeIn K cd5 "place_of" = true) (k5 : PySem.W.keepIn K (.ref f5) = true)
    (a6 : PySem.W.nsIn K mainGlobals "split_at" = some (some (.ref f6))) (l6 : K.lookup f6 = some ⟨oc6, od6, .func (PySem.W.fnOf "split_at" "split_at" (defArgs sSplit) (defBody sSplit) (defScope sSplit) .none kV6 dc6 pm6 an6 cd6 ct6), sl6⟩) (c6 : PySem.W.codeIn K cd6 "split_at" = true) (k6 : PySem.W.keepIn K (.ref f6) = true)
    (a7 : PySem.W.nsIn K mainGlobals "chord_tones" = some (some (.ref f7))) (l7 : K.lookup f7 = some ⟨oc7, od7, .func (PySem.W.fnOf "chord_tones" "chord_tones" (defArgs sCT) (defBody sCT) (defScope sCT) .none kV7 dc7 pm7 an7 cd7 ct7), sl7⟩) (c7 : PySem.W.codeIn K cd7 "chord_tones" = true) (k7 : PySem.W.keepIn K (.ref f7) = true)
    (a8 : PySem.W.nsIn K mainGlobals "bass_tone" = some (some (.ref f8))) (l8 : K.lookup f8 = some ⟨oc8, od8, .func (PySem.W.fnOf "bass_tone" "bass_tone" (defArgs sBT) (defBody sBT) (defScope sBT) .none kV8 dc8 pm8 an8 cd8 ct8), sl8⟩) (c8 : PySem.W.codeIn K cd8 "bass_tone" = true) (k8 : PySem.W.keepIn K (.ref f8) = true)
    (a9 : PySem.W.nsIn K mainGlobals "note_tone" = some (some (.ref f9))) (l9 : K.lookup f9 = some ⟨oc9, od9, .func (PySem.W.fnOf "note_tone" "note_tone" (defArgs sNT) (defBody sNT) (defScope sNT) .none kV9 dc9 pm9 an9 cd9 ct9), sl9⟩) (c9 : PySem.W.codeIn K cd9 "note_tone" = true) (k9 : PySem.W.keepIn K (.ref f9) = true)
    (a10 : PySem.W.nsIn K mainGlobals "strings_as_told" = some (some (.ref f10))) (l10 : K.lookup f10 = some ⟨oc10, od10, .func (PySem.W.fnOf "strings_as_told" "strings_as_told" (defArgs sSAT) (defBody sSAT) (defScope sSAT) .none kV10 dc10 pm10 an10 cd10 ct10), sl10⟩) (c10 : PySem.W.codeIn K cd10 "strings_as_told" = true) (k10 : PySem.W.keepIn K (.ref f10) = true)
    (a11 : PySem.W.nsIn K mainGlobals "best_grip" = some (some (.ref f11))) (l11 : K.lookup f11 = some ⟨oc11, od11, .func (PySem.W.fnOf "best_grip" "best_grip" (defArgs sBest) (defBody sBest) (defScope sBest) .none kV11 dc11 pm11 an11 cd11 ct11), sl11⟩) (c11 : PySem.W.codeIn K cd11 "best_grip" = true) (k11 : PySem.W.keepIn K (.ref f11) = true)
    (a12 : PySem.W.nsIn K mainGlobals "grips_at" = some (some (.ref f12))) (l12 : K.lookup f12 = some ⟨oc12, od12, .func (PySem.W.fnOf "grips_at" "grips_at" (defArgs sGrips) (defBody sGrips) (defScope sGrips) .none kV12 dc12 pm12 an12 cd12 ct12), sl12⟩) (c12 : PySem.W.codeIn K cd12 "grips_at" = true) (k12 : PySem.W.keepIn K (.ref f12) = true)
    (a13 : PySem.W.nsIn K mainGlobals "string_numbers" = some (some (.ref f13))) (l13 : K.lookup f13 = some ⟨oc13, od13, .func (PySem.W.fnOf "string_numbers" "string_numbers" (defArgs sStr) (defBody sStr) (defScope sStr) .none kV13 dc13 pm13 an13 cd13 ct13), sl13⟩) (c13 : PySem.W.codeIn K cd13 "string_numbers" = true) (k13 : PySem.W.keepIn K (.ref f13) = true)
    (a14 : PySem.W.nsIn K mainGlobals "is_good" = some (some (.ref f14))) (l14 : K.lookup f14 = some ⟨oc14, od14, .func (PySem.W.fnOf "is_good" "is_good" (defArgs sGood) (defBody sGood) (defScope sGood) .none kV14 dc14 pm14 an14 cd14 ct14), sl14⟩) (c14 : PySem.W.codeIn K cd14 "is_good" = true) (k14 : PySem.W.keepIn K (.ref f14) = true)
    (a15 : PySem.W.nsIn K mainGlobals "sounding_pitches" = some (some (.ref f15))) (l15 : K.lookup f15 = some ⟨oc15, od15, .func (PySem.W.fnOf "sounding_pitches" "sounding_pitches" (defArgs sSound) (defBody sSound) (defScope sSound) .none kV15 dc15 pm15 an15 cd15 ct15), sl15⟩) (c15 : PySem.W.codeIn K cd15 "sounding_pitches" = true) (k15 : PySem.W.keepIn K (.ref f15) = true)
    (a16 : PySem.W.nsIn K mainGlobals "fingers" = some (some (.ref f16))) (l16 : K.lookup f16 = some ⟨oc16, od16, .func (PySem.W.fnOf "fingers" "fingers" (defArgs sFing) (defBody sFing) (defScope sFing) .none kV16 dc16 pm16 an16 cd16 ct16), sl16⟩) (c16 : PySem.W.codeIn K cd16 "fingers" = true) (k16 : PySem.W.keepIn K (.ref f16) = true)
    (a17 : PySem.W.nsIn K mainGlobals "worth" = some (some (.ref f17))) (l17 : K.lookup f17 = some ⟨oc17, od17, .func (PySem.W.fnOf "worth" "worth" (defArgs sWorth) (defBody sWorth) (defScope sWorth) .none kV17 dc17 pm17 an17 cd17 ct17), sl17⟩) (c17 : PySem.W.codeIn K cd17 "worth" = true) (k17 : PySem.W.keepIn K (.ref f17) = true)
    (gi1 : PySem.W.nsIn K mainGlobals "SLASH" = some (some (.int 47 ti1)))
    (gi2 : PySem.W.nsIn K mainGlobals "SHARP" = some (some (.int 35 ti2)))
    (gi3 : PySem.W.nsIn K mainGlobals "FLAT" = some (some (.int 98 ti3)))
    (gi4 : PySem.W.nsIn K mainGlobals "LOWEST_ALTERATION" = some (some (.int (-2) ti4)))
    (gi5 : PySem.W.nsIn K mainGlobals "MOST_BYTES" = some (some (.int 400 ti5)))
    (gi6 : PySem.W.nsIn K mainGlobals "NOT_AS_TOLD" = some (some (.int (-22) ti6)))
    (gi7 : PySem.W.nsIn K mainGlobals "NO_SONG" = some (some (.int (-71) ti7)))
    (gi8 : PySem.W.nsIn K mainGlobals "ALL_TONES" = some (some (.int 12 ti8)))
    (gi9 : PySem.W.nsIn K mainGlobals "MOST_STRINGS" = some (some (.int 6 ti9)))
    (gi10 : PySem.W.nsIn K mainGlobals "HIGHEST_PITCH" = some (some (.int 100 ti10)))
    (gi11 : PySem.W.nsIn K mainGlobals "NO_GRIP" = some (some (.int (-61) ti11)))
    (gi12 : PySem.W.nsIn K mainGlobals "LAST_POSITION" = some (some (.int 9 ti12)))
    (gi13 : PySem.W.nsIn K mainGlobals "FRETS_AT_A_POSITION" = some (some (.int 4 ti13)))
    (gi14 : PySem.W.nsIn K mainGlobals "MOST_SILENT" = some (some (.int 2 ti14)))
    (gi15 : PySem.W.nsIn K mainGlobals "MOST_FINGERS" = some (some (.int 4 ti15)))
    (gi16 : PySem.W.nsIn K mainGlobals "SILENT_STRING" = some (some (.int 0 ti16)))
    (gi17 : PySem.W.nsIn K mainGlobals "OPEN_STRING" = some (some (.int 1 ti17)))
    (gt1 : PySem.W.nsIn K mainGlobals "LETTERS" = some (some (.ref at1))) (lt1 : K.lookup at1 = some ⟨.type "tuple", dt1, .seq it1 nt1, st1⟩) (vt1 : it1.toList.map absV = (txts lettersT).map some)
    (gt2 : PySem.W.nsIn K mainGlobals "ALTERATIONS" = some (some (.ref at2))) (lt2 : K.lookup at2 = some ⟨.type "tuple", dt2, .seq it2 nt2, st2⟩) (vt2 : it2.toList.map absV = (txts altsT).map some)
    (gt3 : PySem.W.nsIn K mainGlobals "KINDS" = some (some (.ref at3))) (lt3 : K.lookup at3 = some ⟨.type "tuple", dt3, .seq it3 nt3, st3⟩) (vt3 : it3.toList.map absV = (txts kindsT).map some)
    (gt4 : PySem.W.nsIn K mainGlobals "NO_BASS" = some (some (.ref at4))) (lt4 : K.lookup at4 = some ⟨.type "tuple", dt4, .seq it4 nt4, st4⟩) (vt4 : it4.toList.map absV = ([V.int 7, V.int 0]).map some)
    (gt5 : PySem.W.nsIn K mainGlobals "LETTER_TONES" = some (some (.ref at5))) (lt5 : K.lookup at5 = some ⟨.type "tuple", dt5, .seq it5 nt5, st5⟩) (vt5 : it5.toList.map absV = (iv Kyg.bases).map some)
    (gn1 : PySem.W.nsIn K mainGlobals "KIND_TONES" = some (some (.ref an1'))) (vn1 : nestOk K an1' Kyg.steps = true)
    (nb1 : PySem.W.nsIn K mainGlobals "len" = some none)
    (nb2 : PySem.W.nsIn K mainGlobals "ord" = some none)
    (nb3 : PySem.W.nsIn K mainGlobals "enumerate" = some none)
    (nb4 : PySem.W.nsIn K mainGlobals "range" = some none)
    (nb5 : PySem.W.nsIn K mainGlobals "min" = some none)
    (nb6 : PySem.W.nsIn K mainGlobals "max" = some none)
    (nb7 : PySem.W.nsIn K mainGlobals "set" = some none)
    (nb8 : PySem.W.nsIn K mainGlobals "sum" = some none)
    (nb9 : PySem.W.nsIn K mainGlobals "zip" = some none) :
    ∃ fd : FuncData, (∀ (s : Shared) (us : List Value), us.length = (["t", "tuning"] : List Str).length → BindsTo s fd ⟨us, []⟩ ((["t", "tuning"] : List Str).zip us)) ∧ ∀ base : Heap, K.In base → base.Ns mainGlobals mg → FnOk P w K mg base CX0 5 fa fd ["t", "tuning"] (spGrip K) := by
  have e := hfa.symm.trans (PySem.W.mg_of X G a1)
  cases e
  have T : Txt K mg := ⟨⟨_, PySem.W.mg_of X G gi1⟩, ⟨_, PySem.W.mg_of X G gi2⟩, ⟨_, PySem.W.mg_of X G gi3⟩, ⟨_, PySem.W.mg_of X G gi4⟩, ⟨_, PySem.W.mg_of X G gt1, sqT_top lt1 vt1 (by decide)⟩, ⟨_, PySem.W.mg_of X G gt2, sqT_top lt2 vt2 (by decide)⟩, ⟨_, PySem.W.mg_of X G gt3, sqT_top lt3 vt3 (by decide)⟩, ⟨_, PySem.W.mg_of X G gt4, sqT_top lt4 vt4 (by decide)⟩, PySem.W.mg_none_of X G nb1, PySem.W.mg_none_of X G nb2, PySem.W.mg_none_of X G nb3⟩
  have C : TxtC mg := ⟨⟨_, PySem.W.mg_of X G gi5⟩, ⟨_, PySem.W.mg_of X G gi6⟩, ⟨_, PySem.W.mg_of X G gi7⟩⟩
  have TT : TxtT K mg := ⟨⟨_, PySem.W.mg_of X G gi8⟩, ⟨_, PySem.W.mg_of X G gt5, sqT_top lt5 vt5 (by decide)⟩⟩
  have TK : TxtK K mg := ⟨⟨_, PySem.W.mg_of X G gn1, ⟨(nest_of vn1).choose, (nest_of vn1).choose_spec.1, fun k hk => (nest_of vn1).choose_spec.2 k (Nat.lt_succ_of_le hk)⟩⟩, PySem.W.mg_none_of X G nb4⟩
  have TG : TxtG mg := ⟨⟨_, PySem.W.mg_of X G gi9⟩, ⟨_, PySem.W.mg_of X G gi10⟩, ⟨_, PySem.W.mg_of X G gi11⟩, ⟨_, PySem.W.mg_of X G gi12⟩, ⟨_, PySem.W.mg_of X G gi13⟩, ⟨_, PySem.W.mg_of X G gi14⟩, ⟨_, PySem.W.mg_of X G gi15⟩, ⟨_, PySem.W.mg_of X G gi16⟩, ⟨_, PySem.W.mg_of X G gi17⟩, PySem.W.mg_none_of X G nb5, PySem.W.mg_none_of X G nb6, PySem.W.mg_none_of X G nb7, PySem.W.mg_none_of X G nb8, PySem.W.mg_none_of X G nb9⟩
  have F1 := fun_mk (st := sGrip) l1 c1 k1
  have b1 := F1.binds (ps := ["t", "tuning"]) fun _ _ _ _ _ _ us hl => match us, hl with | [_, _], _ => rfl
  have m1 := PySem.W.mg_of X G a1
  have F2 := fun_mk (st := sChord) l2 c2 k2
  have b2 := F2.binds (ps := ["part"]) fun _ _ _ _ _ _ us hl => match us, hl with | [_], _ => rfl
  have m2 := PySem.W.mg_of X G a2
  have F3 := fun_mk (st := sEnd) l3 c3 k3
  have b3 := F3.binds (ps := ["part"]) fun _ _ _ _ _ _ us hl => match us, hl with | [_], _ => rfl
  have m3 := PySem.W.mg_of X G a3
  have F4 := fun_mk (st := sNote) l4 c4 k4
  have b4 := F4.binds (ps := ["part"]) fun _ _ _ _ _ _ us hl => match us, hl with | [_], _ => rfl
  have m4 := PySem.W.mg_of X G a4
  have F5 := fun_mk (st := sPlace) l5 c5 k5
  have b5 := F5.binds (ps := ["part", "names"]) fun _ _ _ _ _ _ us hl => match us, hl with | [_, _], _ => rfl
  have m5 := PySem.W.mg_of X G a5
  have F6 := fun_mk (st := sSplit) l6 c6 k6
  have b6 := F6.binds (ps := ["mark", "t"]) fun _ _ _ _ _ _ us hl => match us, hl with | [_, _], _ => rfl
  have m6 := PySem.W.mg_of X G a6
  have F7 := fun_mk (st := sCT) l7 c7 k7
  have b7 := F7.binds (ps := ["chord"]) fun _ _ _ _ _ _ us hl => match us, hl with | [_], _ => rfl
  have m7 := PySem.W.mg_of X G a7
  have F8 := fun_mk (st := sBT) l8 c8 k8
  have b8 := F8.binds (ps := ["chord"]) fun _ _ _ _ _ _ us hl => match us, hl with | [_], _ => rfl
  have m8 := PySem.W.mg_of X G a8
  have F9 := fun_mk (st := sNT) l9 c9 k9
  have b9 := F9.binds (ps := ["note"]) fun _ _ _ _ _ _ us hl => match us, hl with | [_], _ => rfl
  have m9 := PySem.W.mg_of X G a9
  have F10 := fun_mk (st := sSAT) l10 c10 k10
  have b10 := F10.binds (ps := ["tuning"]) fun _ _ _ _ _ _ us hl => match us, hl with | [_], _ => rfl
  have m10 := PySem.W.mg_of X G a10
  have F11 := fun_mk (st := sBest) l11 c11 k11
  have b11 := F11.binds (ps := ["position", "tuning", "had", "bass"]) fun _ _ _ _ _ _ us hl => match us, hl with | [_, _, _, _], _ => rfl
  have m11 := PySem.W.mg_of X G a11
  have F12 := fun_mk (st := sGrips) l12 c12 k12
  have b12 := F12.binds (ps := ["position", "tuning", "had"]) fun _ _ _ _ _ _ us hl => match us, hl with | [_, _, _], _ => rfl
  have m12 := PySem.W.mg_of X G a12
  have F13 := fun_mk (st := sStr) l13 c13 k13
  have b13 := F13.binds (ps := ["position", "pitch", "had"]) fun _ _ _ _ _ _ us hl => match us, hl with | [_, _, _], _ => rfl
  have m13 := PySem.W.mg_of X G a13
  have F14 := fun_mk (st := sGood) l14 c14 k14
  have b14 := F14.binds (ps := ["numbers", "tuning", "had", "bass"]) fun _ _ _ _ _ _ us hl => match us, hl with | [_, _, _, _], _ => rfl
  have m14 := PySem.W.mg_of X G a14
  have F15 := fun_mk (st := sSound) l15 c15 k15
  have b15 := F15.binds (ps := ["numbers", "tuning"]) fun _ _ _ _ _ _ us hl => match us, hl with | [_, _], _ => rfl
  have m15 := PySem.W.mg_of X G a15
  have F16 := fun_mk (st := sFing) l16 c16 k16
  have b16 := F16.binds (ps := ["numbers"]) fun _ _ _ _ _ _ us hl => match us, hl with | [_], _ => rfl
  have m16 := PySem.W.mg_of X G a16
  have F17 := fun_mk (st := sWorth) l17 c17 k17
  have b17 := F17.binds (ps := ["numbers"]) fun _ _ _ _ _ _ us hl => match us, hl with | [_], _ => rfl
  have m17 := PySem.W.mg_of X G a17
  refine ⟨PySem.W.fnOf "grip" "grip" (defArgs sGrip) (defBody sGrip) (defScope sGrip) .none kV1 dc1 pm1 an1 cd1 ct1, fun s us hu => match us, hu with | [_, _], _ => .of_eq rfl, fun base _ _ => ?_⟩
  have GC := ok_chord (P := P) (w := w) (base := base) F2 T F5 b5 m5 F4 b4 m4 F3 b3 m3 F6 b6 m6
  have GT := ok_ct (P := P) (w := w) (base := base) F7 T TT TK F9 b9 m9 F8 b8 m8
  have GB := ok_bt (P := P) (w := w) (base := base) F8 T TT F9 b9 m9
  have GSt := ok_sat (P := P) (w := w) (base := base) F10 T TG
  have GSn := ok_str (P := P) (w := w) (base := base) F13 TT TK TG
  have GGr := ok_grips (P := P) (w := w) (base := base) F12 TG GSn k13 b13 m13
  have GF := ok_fing (P := P) (w := w) (base := base) F16 T TG
  have GSo := ok_sound (P := P) (w := w) (base := base) F15 TG
  have GG := ok_good (P := P) (w := w) (base := base) F14 TT TG GSo k15 b15 m15 GF k16 b16 m16
  have GW := ok_worth (P := P) (w := w) (base := base) F17 TG GF k16 b16 m16
  have GBe := ok_best (P := P) (w := w) (base := base) F11 TG GGr k12 b12 m12 GG k14 b14 m14 GW k17 b17 m17
  exact ok_grip F1 T C TK TG GC k2 b2 m2 GT k7 b7 m7 GB k8 b8 m8 GSt k10 b10 m10 GBe k11 b11 m11
end Cg
open PySem PySem.W PyProof.Rows
set_option maxRecDepth 100000 in
set_option maxHeartbeats 0 in
theorem PySem.Challenge.cw_chordgrip_s04_grip_holds : PySem.Challenge.rw_chordgrip_s04_grip.Holds := by
  w_on; k_headS; (case hw => exact ⟨[.list [], .list []], by decide +kernel, by decide +kernel⟩)
  k_fillS
  refine L2.walk_specK (r := PySem.Challenge.rw_chordgrip_s04_grip) (k := 5) (CX := L2.CX0) (ps := ["t", "tuning"]) (sp := Cg.spGrip) (by decide +kernel) rfl rfl ⟨rfl, by decide, by decide⟩ (fun w h Y => PySem.W.kIn_of Y) ?F ?S (fun _ _ _ _ z => z)
  case F =>
    intro w mg fa h Y KX G hmg
    refine' Cg.all_mk KX G hmg ?a1 ?l1 ?c1 ?k1 ?a2 ?l2 ?c2 ?k2 ?a3 ?l3 ?c3 ?k3 ?a4 ?l4 ?c4 ?k4 ?a5 ?l5 ?c5 ?k5 ?a6 ?l6 ?c6 ?k6 ?a7 ?l7 ?c7 ?k7 ?a8 ?l8 ?c8 ?k8 ?a9 ?l9 ?c9 ?k9 ?a10 ?l10 ?c10 ?k10 ?a11 ?l11 ?c11 ?k11 ?a12 ?l12 ?c12 ?k12 ?a13 ?l13 ?c13 ?k13 ?a14 ?l14 ?c14 ?k14 ?a15 ?l15 ?c15 ?k15 ?a16 ?l16 ?c16 ?k16 ?a17 ?l17 ?c17 ?k17 ?gi1 ?gi2 ?gi3 ?gi4 ?gi5 ?gi6 ?gi7 ?gi8 ?gi9 ?gi10 ?gi11 ?gi12 ?gi13 ?gi14 ?gi15 ?gi16 ?gi17 ?gt1 ?lt1 ?vt1 ?gt2 ?lt2 ?vt2 ?gt3 ?lt3 ?vt3 ?gt4 ?lt4 ?vt4 ?gt5 ?lt5 ?vt5 ?gn1 ?vn1 ?nb1 ?nb2 ?nb3 ?nb4 ?nb5 ?nb6 ?nb7 ?nb8 ?nb9
    (case a1 => k_is)
    (case l1 => k_is)
    (case c1 => k_is)
    (case k1 => k_is)
    (case a2 => k_is)
    (case l2 => k_is)
    (case c2 => k_is)
    (case k2 => k_is)
    (case a3 => k_is)
    (case l3 => k_is)
    (case c3 => k_is)
    (case k3 => k_is)
    (case a4 => k_is)
    (case l4 => k_is)
    (case c4 => k_is)
    (case k4 => k_is)
    (case a5 => k_is)
    (case l5 => k_is)
    (case c5 => k_is)
    (case k5 => k_is)
    (case a6 => k_is)
    (case l6 => k_is)
    (case c6 => k_is)
    (case k6 => k_is)
    (case a7 => k_is)
    (case l7 => k_is)
    (case c7 => k_is)
    (case k7 => k_is)
    (case a8 => k_is)
    (case l8 => k_is)
    (case c8 => k_is)
    (case k8 => k_is)
    (case a9 => k_is)
    (case l9 => k_is)
    (case c9 => k_is)
    (case k9 => k_is)
    (case a10 => k_is)
    (case l10 => k_is)
    (case c10 => k_is)
    (case k10 => k_is)
    (case a11 => k_is)
    (case l11 => k_is)
    (case c11 => k_is)
    (case k11 => k_is)
    (case a12 => k_is)
    (case l12 => k_is)
    (case c12 => k_is)
    (case k12 => k_is)
    (case a13 => k_is)
    (case l13 => k_is)
    (case c13 => k_is)
    (case k13 => k_is)
    (case a14 => k_is)
    (case l14 => k_is)
    (case c14 => k_is)
    (case k14 => k_is)
    (case a15 => k_is)
    (case l15 => k_is)
    (case c15 => k_is)
    (case k15 => k_is)
    (case a16 => k_is)
    (case l16 => k_is)
    (case c16 => k_is)
    (case k16 => k_is)
    (case a17 => k_is)
    (case l17 => k_is)
    (case c17 => k_is)
    (case k17 => k_is)
    (case gi1 => k_is)
    (case gi2 => k_is)
    (case gi3 => k_is)
    (case gi4 => k_is)
    (case gi5 => k_is)
    (case gi6 => k_is)
    (case gi7 => k_is)
    (case gi8 => k_is)
    (case gi9 => k_is)
    (case gi10 => k_is)
    (case gi11 => k_is)
    (case gi12 => k_is)
    (case gi13 => k_is)
    (case gi14 => k_is)
    (case gi15 => k_is)
    (case gi16 => k_is)
    (case gi17 => k_is)
    (case gt1 => k_is)
    (case lt1 => k_is)
    (case vt1 => decide +kernel)
    (case gt2 => k_is)
    (case lt2 => k_is)
    (case vt2 => decide +kernel)
    (case gt3 => k_is)
    (case lt3 => k_is)
    (case vt3 => decide +kernel)
    (case gt4 => k_is)
    (case lt4 => k_is)
    (case vt4 => decide +kernel)
    (case gt5 => k_is)
    (case lt5 => k_is)
    (case vt5 => decide +kernel)
    (case gn1 => k_is)
    (case vn1 => kernel_rfl)
    (case nb1 => k_is)
    (case nb2 => k_is)
    (case nb3 => k_is)
    (case nb4 => k_is)
    (case nb5 => k_is)
    (case nb6 => k_is)
    (case nb7 => k_is)
    (case nb8 => k_is)
    (case nb9 => k_is)
  case S =>
    intro K H xs a hO hwi hask hx
    cases hx with
    | cons h1 hr1 =>
      cases hr1 with
      | cons h2 hr2 =>
        cases hr2
        cases h1 with
        | lst hs ha =>
          cases h2 with
          | lst hs2 ha2 =>
            have e := L2.ints_dw a.1 _ ha
            subst e
            have e2 := L2.ints_dw a.2.1 _ ha2
            subst e2
            have q : ((Codec.inLen 0 500 a.1 && a.1.all (Codec.inInt 0 255)) && ((Codec.inLen 0 20 a.2.1 && a.2.1.all (Codec.inInt 0 255)) && true)) = true := hwi
            rw [Bool.and_eq_true, Bool.and_eq_true, Bool.and_eq_true, Bool.and_eq_true] at q
            obtain ⟨⟨q1, q2⟩, ⟨q3, q4⟩, _⟩ := q
            have hpos : ∀ x, x ∈ a.1 → 0 ≤ x := fun x hx => (Codec.inInt_iff.mp (List.all_eq_true.mp q2 x hx)).1
            have hpos2 : ∀ x, x ∈ a.2.1 → 0 ≤ x := fun x hx => (Codec.inInt_iff.mp (List.all_eq_true.mp q4 x hx)).1
            rw [Cg.nats_back hpos] at hs
            rw [Cg.nats_back hpos2] at hs2
            refine ⟨_, _, KygNeutral.natsOf a.1, KygNeutral.natsOf a.2.1, rfl, hs, hs2, ?_, ?_, fun H' p hp => ?_⟩
            · rw [KygNeutral.natsOf, List.length_map]
              exact (Codec.inNat_iff.mp q1).2
            · rw [KygNeutral.natsOf, List.length_map]
              exact (Codec.inNat_iff.mp q3).2
            · refine .lst (L2.SqL.of hp) ?_
              show L2.DwAll K H' ((Rd.grAns (KygNeutral.natsOf a.1) (KygNeutral.natsOf a.2.1)).map L2.V.int) ((PyKyg.grip a.1 a.2.1).map WData.int)
              rw [Rd.grip_eq]
              exact L2.dw_ints _
#print axioms PySem.Challenge.cw_chordgrip_s04_grip_holds
