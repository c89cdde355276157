import PyProof.Rows.All
import Wide.All
import OpenK.AllK
import Wide.FinOn
import PyProof.EqAt
import PyProof.EqKinds
import PyProof.TupleCall
import KE.BitLaws
import Open.SpecLaws
import KE.OsHead
import KE.OsGo
import KE.KLam
import KE.KSortKeySt
import KE.KSortTupG
import KE.KSortTupAny
import PyFlatLaws
import PyKh366
import PySem.Challenge.RW_mushpunnets_s01_answers
set_option Elab.async false
set_option linter.all false
set_option maxRecDepth 100000
set_option maxHeartbeats 4000000
-- CHANGE: your row's module here, as the last of these rows
set_option Elab.async false
set_option linter.all false
set_option maxRecDepth 100000
/-! THE HAND LAYER, for ints, bools, texts, own classes, lists, tuples, dicts, comprehensions, walks over dicts, enumerate, zip, reversed, texts, calls, loops. Paste it whole ahead of your own text; what your proof does not reach may be deleted. -/
namespace L2
open PySem PySem.Spec PyProof.Rows

/-- a key: an int or a str -/
abbrev Key := Sum Int Str
def keyIs : Key → Value → Bool
  | .inl k, v => Value.isInt k v
  | .inr x, v => Value.isStrOf x v
def keyH (w : World) : Key → Int
  | .inl k => hashInt k
  | .inr x => hashStr w x
theorem keyIs_shape : ∀ {k : Key} {v : Value}, keyIs k v = true → (∃ i t, k = Sum.inl i ∧ v = Value.int i t) ∨ (∃ x t, k = Sum.inr x ∧ v = Value.str x t)
  | .inl i, v, h => by
    obtain ⟨t, e⟩ := Value.isInt_shape (k := i) (v := v) h
    exact .inl ⟨i, t, rfl, e⟩
  | .inr x, v, h => by
    obtain ⟨t, e⟩ := Value.isStrOf_shape (x := x) (v := v) h
    exact .inr ⟨x, t, rfl, e⟩
theorem key_ll (a b : Int) : decide ((Sum.inl a : Key) = Sum.inl b) = (a == b) := by
  by_cases e : a = b
  · subst e; simp
  · have h : ¬ (Sum.inl a : Key) = Sum.inl b := fun q => e (Sum.inl.inj q)
    rw [decide_eq_false h]
    exact (beq_eq_false_iff_ne.mpr e).symm
theorem key_rr (a b : Str) : decide ((Sum.inr a : Key) = Sum.inr b) = decide (a = b) := by
  by_cases e : a = b
  · subst e; simp
  · have h : ¬ (Sum.inr a : Key) = Sum.inr b := fun q => e (Sum.inr.inj q)
    rw [decide_eq_false h, decide_eq_false e]
theorem key_lr (a : Int) (b : Str) : decide ((Sum.inl a : Key) = Sum.inr b) = false := decide_eq_false (fun q => nomatch q)
theorem key_rl (a : Str) (b : Int) : decide ((Sum.inr a : Key) = Sum.inl b) = false := decide_eq_false (fun q => nomatch q)

def mixKind (prog : Program) (w : World) : PySem.KeyKind prog w Key where
  is := keyIs
  hash := keyH w
  inj := fun v a b ha hb => by
    rcases keyIs_shape ha with ⟨i, t, rfl, rfl⟩ | ⟨x, t, rfl, rfl⟩
    · rcases keyIs_shape hb with ⟨j, u, rfl, e⟩ | ⟨y, u, rfl, e⟩
      · injection e with e1 _; rw [e1]
      · exact nomatch e
    · rcases keyIs_shape hb with ⟨j, u, rfl, e⟩ | ⟨y, u, rfl, e⟩
      · exact nomatch e
      · injection e with e1 _; rw [e1]
  byValue := fun k v h => by
    rcases keyIs_shape h with ⟨i, t, rfl, rfl⟩ | ⟨x, t, rfl, rfl⟩ <;> rfl
  pyHash := fun hv h => by
    rcases keyIs_shape hv with ⟨i, t, rfl, rfl⟩ | ⟨x, t, rfl, rfl⟩
    · exact wpAny_pyHash_int h
    · exact wpAny_pyHash_str h
  eqBool := fun hu hv h => by
    rcases keyIs_shape hu with ⟨i, t, rfl, rfl⟩ | ⟨x, t, rfl, rfl⟩
    · rcases keyIs_shape hv with ⟨j, u, rfl, rfl⟩ | ⟨y, u, rfl, rfl⟩
      · rw [key_ll] at h; exact wpAny_eqBool_int h
      · rw [key_lr] at h; exact SeqAt.EqAt.int_str i t y u _ _ _ _ h
    · rcases keyIs_shape hv with ⟨j, u, rfl, rfl⟩ | ⟨y, u, rfl, rfl⟩
      · rw [key_rl] at h; exact SeqAt.EqAt.str_int x t j u _ _ _ _ h
      · rw [key_rr] at h; exact wpAny_eqBool_str h
  «strs» := fun k x t v h => by
    rcases keyIs_shape h with ⟨i, u, rfl, e⟩ | ⟨y, u, rfl, e⟩
    · exact nomatch e
    · injection e with e1 _
      subst e1
      cases v <;> rfl

end L2

namespace L2
open PySem PySem.Spec PyProof.Rows

/-- a value, without the heap -/
inductive V where
  | non | bl (b : Bool) | int (i : Int) | str (x : Str) | byt (b : Array UInt8) | flt (b : UInt64) | ref (a : Addr) | ty (n : String)
  deriving DecidableEq

def RelV : V → Value → Prop
  | .non, u => u = Value.none
  | .bl b, u => u = Value.bool b
  | .int i, u => ∃ t, u = Value.int i t
  | .str x, u => ∃ t, u = Value.str x t
  | .byt b, u => ∃ t, u = Value.bytes b t
  | .flt b, u => ∃ t, u = Value.float b t
  | .ref a, u => u = Value.ref a
  | .ty n, u => u = Value.type n

abbrev Vals : List V → List Value → Prop := Paired RelV
theorem Vals.length {xs : List V} {us : List Value} (r : Vals xs us) : xs.length = us.length := Paired.length r
theorem Vals.get : ∀ {xs : List V} {us : List Value} {i : Nat} {x : V}, Vals xs us → xs[i]? = some x → ∃ u, us[i]? = some u ∧ RelV x u
  | _, _, _, _, .nil, e => by simp at e
  | _, _, 0, _, .cons r _, e => by simp at e; subst e; exact ⟨_, rfl, r⟩
  | _, _, i + 1, x, .cons _ t, e => by
    obtain ⟨u, h1, h2⟩ := Vals.get (i := i) (x := x) t (by simpa using e)
    exact ⟨u, by simpa using h1, h2⟩
theorem Vals.append : ∀ {xs ys : List V} {us ws : List Value}, Vals xs us → Vals ys ws → Vals (xs ++ ys) (us ++ ws)
  | _, _, _, _, .nil, s => s
  | _, _, _, _, .cons r t, s => .cons r (Vals.append t s)
theorem Vals.take : ∀ {xs : List V} {us : List Value} (n : Nat), Vals xs us → Vals (xs.take n) (us.take n)
  | _, _, 0, _ => .nil
  | _, _, _ + 1, .nil => .nil
  | _, _, n + 1, .cons r t => .cons r (Vals.take n t)
theorem Vals.drop : ∀ {xs : List V} {us : List Value} (n : Nat), Vals xs us → Vals (xs.drop n) (us.drop n)
  | _, _, 0, r => r
  | _, _, _ + 1, .nil => .nil
  | _, _, n + 1, .cons _ t => Vals.drop n t
def RelO : Option V → Option Value → Prop
  | some v, some u => RelV v u
  | none, none => True
  | _, _ => False
def KV {κ : Type} : List (κ × V) → List (κ × Value) → Prop := Paired fun (p : κ × V) (q : κ × Value) => p.1 = q.1 ∧ RelV p.2 q.2

/-- a key of a dict (00_mix): an int or a text -/
def kV : Key → V
  | .inl i => .int i
  | .inr x => .str x

/-- what stands at a tracked address -/
inductive HO where
  /-- a list -/
  | lst (xs : List V)
  /-- a tuple (never changes) -/
  | tup (xs : List V)
  /-- a dict whose keys are ints and texts; one whose keys are tuples of ints and texts (the empty one is both) -/
  | dK (kvs : List (Key × V)) | dT (kvs : List (List Key × V))
  /-- a set of ints: its members, its size -/
  | set (S : Int → Bool) (n : Nat)
  /-- an instance of the class at C, its dict at dx, its attributes -/
  | ins (C dx : Addr) (fs : List (Str × V))
  /-- the dict of the instance at x -/
  | own (x : Addr)
  /-- the dict of an exception -/
  | xd (fs : List (Str × V))
  /-- a bound method, f of x -/
  | met (f x : Addr)
  /-- a range object lo, lo + 1, .. below hi -/
  | rng (lo hi : Int)
  /-- a thing that is known to the object (the script; a dict while a loop walks it): read, never written while it is so -/
  | frz (o : Obj) (u : HO)
  /-- a code object's table -/
  | tbl (ps : Array Value)
  /-- any other thing, by what is true of its one object (a def of one's own: SetO a S n := HO.ext fun h => ..) -/
  | ext (φ : Heap → Prop)

abbrev Hp := Addr → Option HO
def upd (H : Hp) (a : Addr) (o : HO) : Hp := fun b => if b = a then some o else H b
theorem upd_same {H : Hp} {a : Addr} {o : HO} : upd H a o a = some o := by unfold upd; rw [if_pos rfl]
theorem upd_ne {H : Hp} {a b : Addr} {o : HO} (h : b ≠ a) : upd H a o b = H b := by unfold upd; rw [if_neg h]
theorem upd_upd {H : Hp} {a : Addr} {o u : HO} : upd (upd H a o) a u = upd H a u := by
  funext b; unfold upd; split <;> rfl
/-- two objects of different content stand apart -/
theorem ne_of {H : Hp} {a b : Addr} {o u : HO} (h : H a = some o) (h' : H b = some u) (d : o ≠ u) : a ≠ b := by
  intro e; subst e; rw [h] at h'; exact d (Option.some.inj h')
theorem ne_of_none {H : Hp} {a b : Addr} {o : HO} (h : H a = some o) (h' : H b = none) : a ≠ b := by
  intro e; subst e; rw [h] at h'; cases h'

section
variable (P : Program) (w : World)
def ObjOk (H : Hp) (h : Heap) (a : Addr) : HO → Prop
  | .lst xs => xs.length ≤ sizeLine ∧ ∃ (its : List Value) (n : Nat), Vals xs its ∧ h.get? a = some { cls := .type "list", data := .seq its.toArray n }
  | .tup xs => xs.length ≤ sizeLine ∧ ∃ its : List Value, Vals xs its ∧ IsTup h a its.toArray
  | .dK kvs => kvs.length ≤ sizeLine ∧ (a == sysModules) = false ∧ ∃ vs, KV kvs vs ∧ h.DictOf (mixKind P w) a vs
  | .dT kvs => kvs.length ≤ sizeLine ∧ (a == sysModules) = false ∧ ∃ xs : List (List Key × Addr × Value),
      Paired (fun (p : List Key × V) (q : List Key × Addr × Value) => p.1 = q.1 ∧ H q.2.1 = some (.tup (p.1.map kV)) ∧ RelV p.2 q.2.2) kvs xs ∧
      ∃ o es ep, h.get? a = some o ∧ o.ExactDict ∧ o.data = .dict es ep ∧ es.toList = xs.map (entryOfKey (tupleKind (mixKind P w))) ∧ (xs.map (·.1)).Nodup
  | .set S n => h.SetOf (intKind P w) a S n
  | .ins C dx fs => H dx = some (.own a) ∧ fs.length ≤ 1000 ∧ dx ≠ a ∧ h.get? a = some (PySem.W.instObj C dx) ∧
      ∃ mA, h.Ns1 dx mA ∧ (∀ f, RelO (fs.lookup f) (mA f)) ∧ PySem.Within mA (fs.map (·.1))
  | .own _ => ∃ o, h.get? a = some o
  | .xd fs => ∃ mA, h.Ns1 a mA ∧ ∀ f, RelO (fs.lookup f) (mA f)
  | .rng lo hi => ∃ t u v, h.get? a = some { cls := .type "range", data := .fields #[.int lo t, .int hi u, .int 1 v] }
  | .frz o u => h.get? a = some o ∧ ObjOk H h a u
  | .tbl ps => h.get? a = some { cls := .none, data := .fields ps }
  | .met f x => h.get? a = some (PySem.W.methodObj (.ref f) (.ref x))
  | .ext φ => φ h ∧ (∃ o, h.get? a = some o) ∧ ∀ h1 h2 : Heap, φ h1 → (∀ o, h1.get? a = some o → h2.get? a = some o) → φ h2
/-- the abstract heap is held -/
def HOk (H : Hp) (h : Heap) : Prop := ∀ a o, H a = some o → ObjOk P w H h a o
end

section
variable {P : Program} {w : World} {H H' : Hp} {h h' : Heap} {a : Addr} {o : HO}
theorem ObjOk.lt (x : ObjOk P w H h a o) : a < h.objs.size := by
  cases o with
  | lst xs => obtain ⟨_, _, _, _, e⟩ := x; exact Heap.lt_size e
  | tup xs => obtain ⟨_, _, _, p⟩ := x; exact p.lt
  | dK kvs => obtain ⟨_, _, _, _, o, _, _, e, _⟩ := x; exact Heap.lt_size e
  | dT kvs => obtain ⟨_, _, _, _, o, _, _, e, _⟩ := x; exact Heap.lt_size e
  | set S n => obtain ⟨o, _, _, _, e, _⟩ := x; exact Heap.lt_size e
  | ins C dx fs => obtain ⟨_, _, _, e, _⟩ := x; exact Heap.lt_size e
  | own y => obtain ⟨_, e⟩ := x; exact Heap.lt_size e
  | xd fs => obtain ⟨_, ⟨_, _, _, e, _⟩, _⟩ := x; exact Heap.lt_size e
  | rng lo hi => obtain ⟨_, _, _, e⟩ := x; exact Heap.lt_size e
  | frz ob u => obtain ⟨e, _⟩ := x; exact Heap.lt_size e
  | tbl ps => exact Heap.lt_size (show h.get? a = some _ from x)
  | met f y => exact Heap.lt_size (show h.get? a = some _ from x)
  | ext φ => obtain ⟨_, ⟨_, e⟩, _⟩ := x; exact Heap.lt_size e
theorem Paired.mapP {α β : Type} {F G : α → β → Prop} : ∀ {l₁ : List α} {l₂ : List β}, Paired F l₁ l₂ → (∀ a b, F a b → G a b) → Paired G l₁ l₂
  | _, _, .nil, _ => .nil
  | _, _, .cons r t, f => .cons (f _ _ r) (Paired.mapP t f)
/-- what an object's description leans on: its own object, its own dict, the tuples -/
theorem ObjOk.stay (x : ObjOk P w H h a o) (k : ∀ b u, (b = a ∨ H b = some (.own a)) → h.get? b = some u → h'.get? b = some u)
    (ho : ∀ b, H b = some (.own a) → H' b = some (.own a)) (ht : ∀ b xs, H b = some (.tup xs) → H' b = some (.tup xs)) : ObjOk P w H' h' a o := by
  induction o with
  | lst xs => obtain ⟨z, its, n, r, e⟩ := x; exact ⟨z, its, n, r, k _ _ (.inl rfl) e⟩
  | tup xs => obtain ⟨z, its, r, ob, e, c⟩ := x; exact ⟨z, its, r, ob, k _ _ (.inl rfl) e, c⟩
  | dK kvs => obtain ⟨z, y, vs, r, ob, es, ep, e, c⟩ := x; exact ⟨z, y, vs, r, ob, es, ep, k _ _ (.inl rfl) e, c⟩
  | dT kvs =>
    obtain ⟨z, y, xs, r, ob, es, ep, e, c⟩ := x
    exact ⟨z, y, xs, Paired.mapP r fun p q z => ⟨z.1, ht _ _ z.2.1, z.2.2⟩, ob, es, ep, k _ _ (.inl rfl) e, c⟩
  | set S n => obtain ⟨ob, es, ep, t, e, c⟩ := x; exact ⟨ob, es, ep, t, k _ _ (.inl rfl) e, c⟩
  | ins C dx fs =>
    obtain ⟨d, z, ne, e, mA, ⟨od, es, ep, e2, c⟩, r⟩ := x
    exact ⟨ho _ d, z, ne, k _ _ (.inl rfl) e, mA, ⟨od, es, ep, k _ _ (.inr d) e2, c⟩, r⟩
  | own y => obtain ⟨ob, e⟩ := x; exact ⟨ob, k _ _ (.inl rfl) e⟩
  | xd fs => obtain ⟨mA, ⟨od, es, ep, e, c⟩, r⟩ := x; exact ⟨mA, ⟨od, es, ep, k _ _ (.inl rfl) e, c⟩, r⟩
  | rng lo hi => obtain ⟨t, u, v, e⟩ := x; exact ⟨t, u, v, k _ _ (.inl rfl) e⟩
  | frz ob u ih => obtain ⟨e, q⟩ := x; exact ⟨k _ _ (.inl rfl) e, ih q⟩
  | tbl ps =>
    have e : h.get? a = some { cls := .none, data := .fields ps } := x
    show h'.get? a = some { cls := .none, data := .fields ps }
    exact k a _ (.inl rfl) e
  | met f y =>
    have e : h.get? a = some (PySem.W.methodObj (.ref f) (.ref y)) := x
    show h'.get? a = some (PySem.W.methodObj (.ref f) (.ref y))
    exact k a _ (.inl rfl) e
  | ext φ => obtain ⟨p, ⟨o, e⟩, st⟩ := x; exact ⟨st _ _ p fun o q => k _ _ (.inl rfl) q, ⟨o, k _ _ (.inl rfl) e⟩, st⟩
theorem HOk.lt (x : HOk P w H h) (e : H a = some o) : a < h.objs.size := (x a o e).lt
theorem HOk.fresh (x : HOk P w H h) (e : h.objs.size ≤ a) : H a = none := by
  cases q : H a with
  | none => rfl
  | some u => exact absurd (Nat.lt_of_lt_of_le (x.lt q) e) (Nat.lt_irrefl _)
/-- every object of the heap is kept -/
theorem HOk.kept (x : HOk P w H h) (k : ∀ b u, h.get? b = some u → h'.get? b = some u) : HOk P w H h' := fun a o e =>
  (x a o e).stay (fun b u _ q => k b u q) (fun _ q => q) fun _ _ q => q
/-- a new object is laid and tracked -/
theorem HOk.laid (x : HOk P w H h) (k : ∀ b u, h.get? b = some u → h'.get? b = some u) (hp : h.objs.size ≤ a) (new : ObjOk P w (upd H a o) h' a o) : HOk P w (upd H a o) h' := fun b u e => by
  have hn := x.fresh hp
  by_cases hb : b = a
  · subst hb; rw [upd_same] at e; cases e; exact new
  · rw [upd_ne hb] at e
    exact (x b u e).stay (fun c v _ q => k c v q) (fun c q => by rw [upd_ne (ne_of_none q hn)]; exact q) fun c xs q => by rw [upd_ne (ne_of_none q hn)]; exact q
end

/-- what may be read as u: it is u, or a known u -/
def Rd (H : Hp) (a : Addr) (u : HO) : Prop := H a = some u ∨ ∃ o, H a = some (.frz o u)
theorem Rd.ok {P : Program} {w : World} {H : Hp} {h : Heap} {a : Addr} {u : HO} (r : Rd H a u) (x : HOk P w H h) : ObjOk P w H h a u := by
  rcases r with r | ⟨o, r⟩
  · exact x a u r
  · obtain ⟨_, q⟩ := x a _ r
    exact q
/-- what may be written -/
def Mut : Option HO → Prop
  | some (.lst _) => True
  | some (.dK _) => True
  | some (.dT _) => True
  | some (.set _ _) => True
  | some (.ins _ _ _) => True
  | some (.ext _) => True
  | _ => False
section
variable {P : Program} {w : World} {H : Hp} {h h' : Heap} {x e : Addr} {o' : HO}
/-- the object at e is changed: x itself, or the dict of the instance x -/
theorem HOk.write (ok : HOk P w H h) (mu : Mut (H x)) (he : e = x ∨ H e = some (.own x)) (k : ∀ b u, b ≠ e → h.get? b = some u → h'.get? b = some u) (heo : ∃ u, h'.get? e = some u)
    (new : ObjOk P w (upd H x o') h' x o') : HOk P w (upd H x o') h' := fun b u q => by
  have nown : ∀ c y, H c = some (.own y) → c ≠ x := fun c y r z => by subst z; rw [r] at mu; exact mu
  have ntup : ∀ c xs, H c = some (.tup xs) → c ≠ x := fun c xs r z => by subst z; rw [r] at mu; exact mu
  by_cases hb : b = x
  · subst hb; rw [upd_same] at q; cases q; exact new
  · rw [upd_ne hb] at q
    by_cases hbe : b = e
    · have q' : H b = some (.own x) := by
        rcases he with z | z
        · exact absurd (hbe.trans z) hb
        · rw [hbe]; exact z
      rw [q] at q'; cases q'
      obtain ⟨v, hv⟩ := heo
      exact ⟨v, by rw [hbe]; exact hv⟩
    · refine (ok b u q).stay (fun c v hc r => k c v ?_ r) (fun c r => by rw [upd_ne (nown c b r)]; exact r) fun c xs r => by rw [upd_ne (ntup c xs r)]; exact r
      rcases hc with rfl | hc
      · exact hbe
      · rintro rfl
        rcases he with z | z
        · exact nown c b hc z
        · rw [hc] at z; cases z; exact hb rfl
end

/-! ### kept unless tracked; of the frames at fs (the callers') the slots may change (an exception that passes writes there); of the records at ex (iterators) nothing is said -/
structure Un (fs ex : List Addr) (H H' : Hp) (h h' : Heap) : Prop where
  keep : ∀ b o, h.get? b = some o → H b = none → b ∉ fs → b ∉ ex → h'.get? b = some o
  slot : ∀ b o, h.get? b = some o → H b = none → b ∈ fs → b ∉ ex → ∃ sl, h'.get? b = some { o with slots := sl }
  free : ∀ b o, h.get? b = some o → H b = none → b ∉ ex → H' b = none
  there : ∀ b o, h.get? b = some o → b ∉ ex → ∃ o', h'.get? b = some o'
  tups : ∀ b xs, H b = some (.tup xs) → H' b = some (.tup xs)
  frzs : ∀ b o u, H b = some (.frz o u) → H' b = some (.frz o u)
  tbls : ∀ b ps, H b = some (.tbl ps) → ∃ more, H' b = some (.tbl (ps ++ more))
section
variable {fs fs' ex ex' : List Addr} {H H1 H2 : Hp} {h h1 h2 h' : Heap} {a x e : Addr} {o : HO}
theorem Un.any (u : Un fs ex H H1 h h1) {b : Addr} {ob : Obj} (q : h.get? b = some ob) (n : H b = none) (hx : b ∉ ex) : ∃ sl, h1.get? b = some { ob with slots := sl } := by
  by_cases hb : b ∈ fs
  · exact u.slot b ob q n hb hx
  · exact ⟨ob.slots, u.keep b ob q n hb hx⟩
theorem Un.kept (k : ∀ b u, h.get? b = some u → h'.get? b = some u) : Un fs ex H H h h' :=
  ⟨fun b ob q _ _ _ => k b ob q, fun b ob q _ _ _ => ⟨ob.slots, k b ob q⟩, fun _ _ _ n _ => n, fun b ob q _ => ⟨ob, k b ob q⟩, fun _ _ q => q, fun _ _ _ q => q, fun _ ps q => ⟨#[], by rw [q]; simp⟩⟩
theorem Un.refl : Un fs ex H H h h := Un.kept fun _ _ q => q
theorem Un.laid (k : ∀ b u, h.get? b = some u → h'.get? b = some u) (hp : h.objs.size ≤ a) (hn : H a = none) : Un fs ex H (upd H a o) h h' where
  keep := fun b u q _ _ _ => k b u q
  slot := fun b u q _ _ _ => ⟨u.slots, k b u q⟩
  free := fun b u q n _ => by rw [upd_ne (Nat.ne_of_lt (Nat.lt_of_lt_of_le (Heap.lt_size q) hp))]; exact n
  there := fun b u q _ => ⟨u, k b u q⟩
  tups := fun b xs q => by rw [upd_ne (ne_of_none q hn)]; exact q
  frzs := fun b u xs q => by rw [upd_ne (ne_of_none q hn)]; exact q
  tbls := fun b ps q => ⟨#[], by rw [upd_ne (ne_of_none q hn), q]; simp⟩
theorem Un.write (mu : Mut (H x)) (he : e = x ∨ H e = some (.own x)) (k : ∀ b u, b ≠ e → h.get? b = some u → h'.get? b = some u) (heo : ∃ u, h'.get? e = some u) : Un fs ex H (upd H x o) h h' := by
  have hx : ∀ b, H b = none → b ≠ x := fun b n z => by subst z; rw [n] at mu; exact mu
  have hb : ∀ b, H b = none → b ≠ e := fun b n z => by
    subst z
    rcases he with r | r
    · exact hx b n r
    · rw [n] at r; cases r
  have hm : ∀ b u, H b = some u → ¬ Mut (some u) → b ≠ x := fun b u q nm z => by subst z; rw [q] at mu; exact nm mu
  refine ⟨fun b u q n _ _ => k b u (hb b n) q, fun b u q n _ _ => ⟨u.slots, k b u (hb b n) q⟩, fun b u q n _ => by rw [upd_ne (hx b n)]; exact n, fun b u q _ => ?_,
    fun b xs q => by rw [upd_ne (hm b _ q fun z => z)]; exact q, fun b u xs q => by rw [upd_ne (hm b _ q fun z => z)]; exact q, fun b ps q => ⟨#[], by rw [upd_ne (hm b _ q fun z => z), q]; simp⟩⟩
  by_cases hbe : b = e
  · subst hbe; exact heo
  · exact ⟨u, k b u hbe q⟩
end

/-! ### the heap without what is tracked -/
def trk (h : Heap) (H : Hp) : List Addr := (List.range h.objs.size).filter fun a => (H a).isSome
def hidT (h : Heap) (H : Hp) : Heap := PySem.W.hideAll h (trk h H)
theorem hidT_size (h : Heap) (H : Hp) : (hidT h H).objs.size = h.objs.size := PySem.W.hideAll_size _ _
theorem hidT_get {h : Heap} {H : Hp} {b : Addr} {o : Obj} (e : h.get? b = some o) (n : H b = none) : (hidT h H).get? b = some o :=
  PySem.W.hideAll_get _ e fun hm => by
    have q : (H b).isSome = true := (List.mem_filter.mp hm).2
    rw [n] at q; simp at q
theorem of_hidT {h : Heap} {H : Hp} {b : Addr} {o : Obj} (e : (hidT h H).get? b = some o) : h.get? b = some o ∧ H b = none := by
  have e' : h.get? b = some o := PySem.W.of_hideAll (trk h H) e
  refine ⟨e', ?_⟩
  cases q : H b with
  | none => rfl
  | some x =>
    have hm : b ∈ trk h H := List.mem_filter.mpr ⟨List.mem_range.mpr (Heap.lt_size e'), by simp [q]⟩
    have z : (hidT h H).get? b = none := PySem.W.hideAll_none (trk h H) hm
    rw [z] at e; cases e

/-! ### OpenK's ledger, filled with every new object but one -/
end L2

namespace L2
open PySem PySem.Spec PyProof.Rows

/-- the module's facts, over the base: the heap at the law's entry without what is tracked there -/
structure Mod (K : PySem.W.Frag) (mg : Str → Option Value) (base : Heap) : Prop where
  kin : K.In base
  glob : base.Ns mainGlobals mg
  blt : ∃ mb, base.Ns builtinsNs mb ∧ ∀ x : Str, x ≠ "__name__" → mb x = bootBuiltins x
  nolimit : base.NoLimit

/-- the context: a def's body (or a comprehension's block) running. base: fixed through the whole law; s₀, H₀: the entry; outer: the frames whose slots others may change (a def's callers); stack: all frames that run;
   ex: iterators that were made ahead of the entry and are walked here (a comprehension's); fn: the names whose cells were made at the entry (a def: all; a comprehension's block: its own); calm: not within an except suite; pn: pins that every state bears; xe: what is wanted of an exception that leaves the code -/
structure Cx where
  prog : Program
  w : World
  K : PySem.W.Frag
  mg : Str → Option Value
  base : Heap
  A : Around
  N : List Str
  s_0 : Shared
  H_0 : Hp
  env : Env
  outer : List Env
  stack : List Env
  ex : List Addr
  fn : Str → Bool
  calm : Bool
  pn : List (Addr × Obj)
  xe : Value → Shared → Prop
/-- the callers' frames -/
def frs (l : List Env) : List Addr := l.filterMap (·.frame)
abbrev Cx.fs (X : Cx) : List Addr := frs X.outer

def Vis (sc : Scope) (x : Str) : Prop := sc.names.lookup x = some .local ∨ sc.names.lookup x = some .cell ∨ sc.names.lookup x = some .free
def Loc (sc : Scope) (x : Str) : Prop := sc.names.lookup x = some .local ∨ sc.names.lookup x = some .cell
def Look (env : Env) (h : Heap) (m : Str → Option Value) (x : Str) (u : Value) : Prop :=
  (env.kindOf x = some .local ∧ m x = some u) ∨ ((env.kindOf x = some .cell ∨ env.kindOf x = some .free) ∧ ∃ c, env.cells.lookup x = some c ∧ h.IsCell c (some u))

structure Cx.Ok (X : Cx) : Prop where
  mod : Mod X.K X.mg X.base
  kind : X.env.scope.kind = .function
  glob : X.env.globals = mainGlobals
  blt : X.env.builtins = builtinsNs
  above : X.s_0.heap.objs.size ≤ X.env.locals
  inj : ∀ x y c, X.env.cells.lookup x = some c → X.env.cells.lookup y = some c → x = y
  has : ∀ x, (X.env.kindOf x = some .cell ∨ X.env.kindOf x = some .free) → ∃ c, X.env.cells.lookup x = some c
  cab : ∀ x c, X.fn x = true → X.env.cells.lookup x = some c → X.s_0.heap.objs.size ≤ c
  hd : X.calm = true → X.A.handled = none
  frames : X.A.frames = some X.stack
  stk : X.stack = X.outer ∨ (X.stack = X.env :: X.outer ∧ X.env.frame = some X.env.locals)
  exf : ∀ b ∈ X.ex, b ≠ X.env.locals ∧ ∀ x c, X.env.cells.lookup x = some c → c ≠ b
  bs : ∀ b o, X.base.get? b = some o → X.s_0.heap.get? b = some o ∧ X.H_0 b = none
  bsz : X.base.objs.size ≤ X.s_0.heap.objs.size
  noex : ∀ b o, X.base.get? b = some o → b ∉ X.ex
  exfs : ∀ b ∈ X.ex, b ∉ X.fs
  funs : X.s_0.heap.FunFrames X.base X.outer
  frf : ∀ b ∈ X.fs, X.H_0 b = none

structure Inv (X : Cx) (pins : List (Addr × Obj)) (σ : List (Option V)) (H : Hp) (s : Shared) : Prop where
  ok : X.Ok
  os : s.os = X.s_0.os
  bare : AllBare s.gens
  base : Un X.fs X.ex X.H_0 H X.s_0.heap s.heap
  loc : ∃ m, s.heap.Ns X.env.locals m ∧ ∀ (i : Nat) (x : Str) (v : V), X.N[i]? = some x → σ[i]? = some (some v) → Vis X.env.scope x → ∃ u, RelV v u ∧ Look X.env s.heap m x u
  cell : ∀ x c, X.env.cells.lookup x = some c → ∃ v, s.heap.IsCell c v
  free : H X.env.locals = none
  freeC : ∀ x c, X.env.cells.lookup x = some c → H c = none
  pin : ∀ p ∈ X.pn ++ pins, s.heap.get? p.1 = some p.2 ∧ H p.1 = none ∧ p.1 ≠ X.env.locals ∧ p.1 ∉ X.fs ∧ ∀ v, p.2.data ≠ .cell v
  hok : HOk X.prog X.w H s.heap
  len : σ.length = X.N.length

section
variable {X : Cx} {pins : List (Addr × Obj)} {σ : List (Option V)} {H H' : Hp} {s : Shared} {h' : Heap}

theorem Cx.Ok.nofr (ok : X.Ok) {b : Addr} {o : Obj} (e : X.base.get? b = some o) : b ∉ X.fs := fun hb => by
  have := (ok.funs.mem hb).1
  rw [e] at this; cases this
theorem Inv.bs (I : Inv X pins σ H s) : ∀ b o, X.base.get? b = some o → s.heap.get? b = some o ∧ H b = none := fun b o e =>
  ⟨I.base.keep b o (I.ok.bs b o e).1 (I.ok.bs b o e).2 (I.ok.nofr e) (I.ok.noex b o e), I.base.free b o (I.ok.bs b o e).1 (I.ok.bs b o e).2 (I.ok.noex b o e)⟩
theorem Inv.bk (I : Inv X pins σ H s) : ∀ b o, X.base.get? b = some o → s.heap.get? b = some o := fun b o e => (I.bs b o e).1
theorem Inv.mod (I : Inv X pins σ H s) : Mod X.K X.mg X.base := I.ok.mod
theorem Inv.kIn (I : Inv X pins σ H s) : X.K.In s.heap := I.ok.mod.kin.keeps I.bk
theorem Inv.nolimit (I : Inv X pins σ H s) : s.heap.NoLimit := I.ok.mod.nolimit.keeps I.bk
theorem Inv.lt (I : Inv X pins σ H s) : X.env.locals < s.heap.objs.size := let ⟨_, hn, _⟩ := I.loc; hn.lt
theorem Inv.sz (I : Inv X pins σ H s) : X.s_0.heap.objs.size ≤ s.heap.objs.size := Nat.le_trans I.ok.above (Nat.le_of_lt I.lt)
theorem Inv.nofs (I : Inv X pins σ H s) {a : Addr} (h : s.heap.objs.size ≤ a) : a ∉ X.fs := fun hb => by
  obtain ⟨_, o, ho, _⟩ := I.ok.funs.mem hb
  exact absurd (Nat.lt_of_lt_of_le (Heap.lt_size ho) (Nat.le_trans I.sz h)) (Nat.lt_irrefl _)
theorem Inv.cne (I : Inv X pins σ H s) : ∀ x c, X.env.cells.lookup x = some c → c ≠ X.env.locals := fun x c e z => by
  obtain ⟨v, o, ho, hd⟩ := I.cell x c e
  obtain ⟨m, ⟨o', es, ep, ho', hd', _⟩, _⟩ := I.loc
  rw [z, ho'] at ho; cases ho; rw [hd'] at hd; cases hd
theorem Inv.funs (I : Inv X pins σ H s) : s.heap.FunFrames X.base X.outer := by
  have all : ∀ (l : List Env), (∀ b ∈ frs l, b ∈ X.fs) → X.s_0.heap.FunFrames X.base l → s.heap.FunFrames X.base l := by
    intro l
    induction l with
    | nil => intro _ _; trivial
    | cons env r ih =>
      intro hs hl
      obtain ⟨hk, ⟨L, o, hf, hn, ho, hd⟩, hr⟩ := hl
      have hL : L ∈ X.fs := hs L (by unfold frs; rw [List.filterMap_cons, hf]; exact List.mem_cons_self)
      obtain ⟨sl, e⟩ := I.base.slot L o ho (I.ok.frf L hL) hL fun z => I.ok.exfs L z hL
      exact ⟨hk, ⟨L, _, hf, hn, e, hd⟩, ih (fun b hb => hs b (by unfold frs; rw [List.filterMap_cons, hf]; exact List.mem_cons_of_mem _ hb)) hr⟩
  exact all X.outer (fun _ hb => hb) I.ok.funs

/-- the frames that run, for a call -/
theorem Inv.stack (I : Inv X pins σ H s) : s.heap.FunFrames X.base X.stack := by
  rcases I.ok.stk with e | ⟨e, hf⟩
  · rw [e]; exact I.funs
  · rw [e]
    obtain ⟨m, hn, _⟩ := I.loc
    refine .cons (by rw [I.ok.kind]; decide) hf hn ?_ I.funs
    exact Heap.get?_none_of_le (Nat.le_trans I.ok.bsz I.ok.above)
theorem Inv.stkSub (I : Inv X pins σ H s) : ∀ b ∈ frs X.stack, b ∈ X.env.locals :: X.fs := fun b hb => by
  rcases I.ok.stk with e | ⟨e, hf⟩
  · rw [e] at hb; exact List.mem_cons_of_mem _ hb
  · rw [e] at hb
    unfold frs at hb
    rw [List.filterMap_cons, hf] at hb
    exact hb
theorem Inv.stkFree (I : Inv X pins σ H s) : ∀ b ∈ frs X.stack, H b = none := fun b hb => by
  rcases List.mem_cons.mp (I.stkSub b hb) with e | hb
  · rw [e]; exact I.free
  · obtain ⟨_, o, ho, _⟩ := I.ok.funs.mem hb
    exact I.base.free b o ho (I.ok.frf b hb) fun z => I.ok.exfs b z hb

/-- THE STEP: the untracked objects but the frame and the records at ch are kept (the callers' frames up to slots), the frame's map is kept, the new abstract heap is held -/
theorem Inv.step {g' : Array GenState} {t' : Nat} {d' : Drawn} {ch : List Addr} (I : Inv X pins σ H s)
    (hch : ∀ b ∈ ch, (b ∈ X.ex ∨ X.s_0.heap.objs.size ≤ b) ∧ b ≠ X.env.locals ∧ (∀ x c, X.env.cells.lookup x = some c → c ≠ b) ∧ ∀ p ∈ X.pn ++ pins, p.1 ≠ b)
    (keep : ∀ b o, b ≠ X.env.locals → b ∉ X.fs → b ∉ ch → s.heap.get? b = some o → H b = none → h'.get? b = some o)
    (slot : ∀ b o, b ≠ X.env.locals → b ∈ X.fs → b ∉ ch → s.heap.get? b = some o → H b = none → ∃ sl, h'.get? b = some { o with slots := sl }) (free : ∀ b o, b ∉ ch → s.heap.get? b = some o → H b = none → H' b = none)
    (there : ∀ b o, b ∉ ch → s.heap.get? b = some o → ∃ o', h'.get? b = some o')
    (tups : ∀ b xs, H b = some (.tup xs) → H' b = some (.tup xs)) (frzs : ∀ b o u, H b = some (.frz o u) → H' b = some (.frz o u)) (tbls : ∀ b ps, H b = some (.tbl ps) → ∃ more, H' b = some (.tbl (ps ++ more)))
    (ns : ∀ m, s.heap.Ns X.env.locals m → h'.Ns X.env.locals m) (hok : HOk X.prog X.w H' h') (hg : AllBare g') :
    Inv X pins σ H' { s with heap := h', gens := g', drawn := d', toks := t' } := by
  have neL : ∀ b o, X.s_0.heap.get? b = some o → b ≠ X.env.locals := fun b o e => Nat.ne_of_lt (Nat.lt_of_lt_of_le (Heap.lt_size e) I.ok.above)
  have neC : ∀ b o, X.s_0.heap.get? b = some o → b ∉ X.ex → b ∉ ch := fun b o e hx hb => by
    rcases (hch b hb).1 with z | z
    · exact hx z
    · exact absurd (Nat.lt_of_lt_of_le (Heap.lt_size e) z) (Nat.lt_irrefl _)
  have cellK : ∀ x c, X.env.cells.lookup x = some c → ∀ v, s.heap.IsCell c v → h'.IsCell c v := fun x c e v ⟨o, ho, hd⟩ => by
    have nch : c ∉ ch := fun z => (hch c z).2.2.1 x c e rfl
    by_cases hc : c ∈ X.fs
    · obtain ⟨sl, q⟩ := slot c o (I.cne x c e) hc nch ho (I.freeC x c e)
      exact ⟨_, q, hd⟩
    · exact ⟨o, keep c o (I.cne x c e) hc nch ho (I.freeC x c e), hd⟩
  refine ⟨I.ok, I.os, hg, ⟨fun b o e n hb hx => ?_, fun b o e n hb hx => ?_, fun b o e n hx => ?_, fun b o e hx => ?_, fun b xs e => tups b xs (I.base.tups b xs e), fun b o xs e => frzs b o xs (I.base.frzs b o xs e), fun b ps e => ?_⟩, ?_, fun x c e => ?_, ?_, fun x c e => ?_, fun p hp => ?_, hok, I.len⟩
  · exact keep b o (neL b o e) hb (neC b o e hx) (I.base.keep b o e n hb hx) (I.base.free b o e n hx)
  · obtain ⟨sl, e1⟩ := I.base.slot b o e n hb hx
    obtain ⟨sl', e2⟩ := slot b _ (neL b o e) hb (neC b o e hx) e1 (I.base.free b o e n hx)
    exact ⟨sl', e2⟩
  · obtain ⟨o', e1⟩ := I.base.there b o e hx
    exact free b o' (neC b o e hx) e1 (I.base.free b o e n hx)
  · obtain ⟨o', e1⟩ := I.base.there b o e hx
    exact there b o' (neC b o e hx) e1
  · obtain ⟨m1, e1⟩ := I.base.tbls b ps e
    obtain ⟨m2, e2⟩ := tbls b _ e1
    exact ⟨m1 ++ m2, by rw [e2, Array.append_assoc]⟩
  · obtain ⟨m, hn, hl⟩ := I.loc
    refine ⟨m, ns m hn, fun i x v e1 e2 e3 => ?_⟩
    obtain ⟨u, r, l⟩ := hl i x v e1 e2 e3
    refine ⟨u, r, ?_⟩
    rcases l with l | ⟨k, c, e, z⟩
    · exact .inl l
    · exact .inr ⟨k, c, e, cellK x c e _ z⟩
  · obtain ⟨v, z⟩ := I.cell x c e
    exact ⟨v, cellK x c e v z⟩
  · obtain ⟨m, ⟨o, _, _, ho, _⟩, _⟩ := I.loc
    exact free _ o (fun z => (hch _ z).2.1 rfl) ho I.free
  · obtain ⟨v, o, ho, hd⟩ := I.cell x c e
    exact free c o (fun z => (hch c z).2.2.1 x c e rfl) ho (I.freeC x c e)
  · obtain ⟨e, n, ne, nf, d⟩ := I.pin p hp
    have nch : p.1 ∉ ch := fun z => (hch p.1 z).2.2.2 p hp rfl
    exact ⟨keep p.1 p.2 ne nf nch e n, free p.1 p.2 nch e n, ne, nf, d⟩
/-- .. where the frame's own object is kept too -/
theorem Inv.un {t' : Nat} (I : Inv X pins σ H s) (u : Un X.fs [] H H' s.heap h') (hok : HOk X.prog X.w H' h') : Inv X pins σ H' { s with heap := h', toks := t' } := by
  obtain ⟨m, ⟨o, es, ep, ho, r⟩, _⟩ := id I.loc
  obtain ⟨sl, hL⟩ := u.any ho I.free (by simp)
  exact I.step (g' := s.gens) (d' := s.drawn) (ch := []) (fun _ z => nomatch z) (fun b o _ hb _ e n => u.keep b o e n hb (by simp)) (fun b o _ hb _ e n => u.slot b o e n hb (by simp)) (fun b o _ e n => u.free b o e n (by simp)) (fun b o _ e => u.there b o e (by simp)) u.tups u.frzs u.tbls (fun m' hm => by
    obtain ⟨o', es', ep', ho', r'⟩ := hm
    rw [ho] at ho'; cases ho'
    exact ⟨_, es', ep', hL, r'⟩) hok I.bare
/-- behind a call (or a comprehension's block): the slots of this frame may have changed too, the records at ch may have turned -/
theorem Inv.call {g' : Array GenState} {t' : Nat} {d' : Drawn} {ch : List Addr} (I : Inv X pins σ H s) (u : Un (frs X.stack) ch H H' s.heap h') (hok : HOk X.prog X.w H' h') (hg : AllBare g')
    (hch : ∀ b ∈ ch, (b ∈ X.ex ∨ X.s_0.heap.objs.size ≤ b) ∧ b ≠ X.env.locals ∧ (∀ x c, X.env.cells.lookup x = some c → c ≠ b) ∧ ∀ p ∈ X.pn ++ pins, p.1 ≠ b) :
    Inv X pins σ H' { s with heap := h', gens := g', drawn := d', toks := t' } := by
  obtain ⟨m, ⟨o, es, ep, ho, r⟩, _⟩ := id I.loc
  obtain ⟨sl, hL⟩ := u.any ho I.free fun z => (hch _ z).2.1 rfl
  exact I.step (ch := ch) hch (fun b o hL hb hc e n => u.keep b o e n (fun z => (List.mem_cons.mp (I.stkSub b z)).elim hL hb) hc) (fun b o _ _ hc e n => u.any e n hc) (fun b o hc e n => u.free b o e n hc) (fun b o hc e => u.there b o e hc) u.tups u.frzs u.tbls (fun m' hm => by
    obtain ⟨o', es', ep', ho', r'⟩ := hm
    rw [ho] at ho'; cases ho'
    exact ⟨_, es', ep', hL, r'⟩) hok hg
/-- an untracked record of ours (an iterator) has turned -/
theorem Inv.turned {t' : Nat} {it : Addr} (I : Inv X pins σ H s) (k : ∀ b o, b ≠ it → s.heap.get? b = some o → h'.get? b = some o) (hn : H it = none) (hL : it ≠ X.env.locals)
    (h1 : it ∈ X.ex ∨ X.s_0.heap.objs.size ≤ it) (h2 : ∀ x c, X.env.cells.lookup x = some c → c ≠ it) (h3 : ∀ p ∈ X.pn ++ pins, p.1 ≠ it) : Inv X pins σ H { s with heap := h', toks := t' } := by
  have nit : ∀ b u, H b = some u → b ≠ it := fun b u e z => by rw [z, hn] at e; cases e
  refine I.step (g' := s.gens) (d' := s.drawn) (ch := [it]) (fun b hb => ?_) (fun b o _ _ hc e _ => k b o (fun z => hc (by simp [z])) e) (fun b o _ _ hc e _ => ⟨o.slots, k b o (fun z => hc (by simp [z])) e⟩) (fun _ _ _ _ n => n)
    (fun b o hc e => ⟨o, k b o (fun z => hc (by simp [z])) e⟩) (fun _ _ e => e) (fun _ _ _ e => e) (fun b ps e => ⟨#[], by rw [e]; simp⟩) (fun m hm => ?_) (fun b u e => ?_) I.bare
  · have e : b = it := by simpa using hb
    subst e
    exact ⟨h1, hL, h2, h3⟩
  · obtain ⟨o, es, ep, ho, r⟩ := hm
    exact ⟨o, es, ep, k _ o (Ne.symm hL) ho, r⟩
  · refine (I.hok b u e).stay (fun c v hc q => k c v ?_ q) (fun _ q => q) fun _ _ q => q
    rcases hc with z | z
    · rw [z]; exact nit b u e
    · exact nit c _ z
theorem Inv.tok (I : Inv X pins σ H s) (t : Nat) : Inv X pins σ H { s with toks := t } := I.un (h' := s.heap) (t' := t) Un.refl I.hok
/-- all objects kept -/
theorem Inv.kept {t' : Nat} (I : Inv X pins σ H s) (k : ∀ b u, s.heap.get? b = some u → h'.get? b = some u) : Inv X pins σ H { s with heap := h', toks := t' } := I.un (Un.kept k) (I.hok.kept k)
/-- a new object laid and tracked -/
theorem Inv.laid {a : Addr} {o : HO} {t' : Nat} (I : Inv X pins σ H s) (k : ∀ b u, s.heap.get? b = some u → h'.get? b = some u) (hp : s.heap.objs.size ≤ a) (new : ObjOk X.prog X.w (upd H a o) h' a o) :
    Inv X pins σ (upd H a o) { s with heap := h', toks := t' } := I.un (Un.laid k hp (I.hok.fresh hp)) (I.hok.laid k hp new)
/-- an object written -/
theorem Inv.write {x e : Addr} {o : HO} {t' : Nat} (I : Inv X pins σ H s) (mu : Mut (H x)) (he : e = x ∨ H e = some (.own x)) (k : ∀ b u, b ≠ e → s.heap.get? b = some u → h'.get? b = some u) (heo : ∃ u, h'.get? e = some u)
    (new : ObjOk X.prog X.w (upd H x o) h' x o) : Inv X pins σ (upd H x o) { s with heap := h', toks := t' } := I.un (Un.write mu he k heo) (I.hok.write mu he k heo new)
/-- forgetting slots, pins -/
theorem Inv.weak {σ' : List (Option V)} (I : Inv X pins σ H s) (hl : σ'.length = σ.length) (w : ∀ (i : Nat) v, σ'[i]? = some (some v) → σ[i]? = some (some v)) : Inv X pins σ' H s :=
  ⟨I.ok, I.os, I.bare, I.base, let ⟨m, hn, hl'⟩ := I.loc; ⟨m, hn, fun i x v e1 e2 e3 => hl' i x v e1 (w i v e2) e3⟩, I.cell, I.free, I.freeC, I.pin, I.hok, hl.trans I.len⟩
theorem Inv.pins_of {pins' : List (Addr × Obj)} (I : Inv X pins σ H s) (h : ∀ p ∈ pins', s.heap.get? p.1 = some p.2 ∧ H p.1 = none ∧ p.1 ≠ X.env.locals ∧ p.1 ∉ X.fs ∧ ∀ v, p.2.data ≠ .cell v) : Inv X pins' σ H s :=
  ⟨I.ok, I.os, I.bare, I.base, I.loc, I.cell, I.free, I.freeC, fun p hp => (List.mem_append.mp hp).elim (fun z => I.pin p (List.mem_append_left _ z)) (h p), I.hok, I.len⟩

theorem nodup_ix {N : List Str} (hN : N.Nodup) {i j : Nat} {x : Str} (a : N[i]? = some x) (b : N[j]? = some x) : i = j := by
  obtain ⟨h1, e1⟩ := List.getElem?_eq_some_iff.mp a
  obtain ⟨h2, e2⟩ := List.getElem?_eq_some_iff.mp b
  exact (List.getElem_inj hN).mp (e1.trans e2.symm)

/-- a name is stored; what changed -/
theorem store_ok2 {M : Model} {A : Around} {E : Value → Shared → Prop} {i : Nat} {x : Str} {v : V} {u : Value} {Q : Unit → Shared → Prop} (I : Inv X pins σ H s) (hN : X.N.Nodup) (hi : X.N[i]? = some x) (hx : Loc X.env.scope x) (r : RelV v u)
    (h : ∀ s', Inv X pins (σ.set i (some v)) H s' → (∃ a, Heap.SameBut a s.heap s'.heap ∧ (a = X.env.locals ∨ X.env.cells.lookup x = some a)) → Q () s') (hf : X.fn x = true ∨ X.env.scope.names.lookup x = some .local := by first | exact .inl rfl | exact .inr rfl | assumption) : wpAny M A (storeName X.env x u) Q E s := by
  obtain ⟨m, hn, hl⟩ := id I.loc
  have hcls : (X.env.scope.kind == .class || (X.env.scope.kind == .module && X.env.locals != X.env.globals)) = false := by rw [I.ok.kind]; rfl
  have hiσ : i < σ.length := by rw [I.len]; exact (List.getElem?_eq_some_iff.mp hi).1
  have cne := I.cne
  have tracked : ∀ {a : Addr} {h' : Heap}, (∃ o, s.heap.get? a = some o ∧ H a = none) → Heap.SameBut a s.heap h' → HOk X.prog X.w H h' := fun {a h'} ha hs b ob e => by
    obtain ⟨_, _, hfree⟩ := ha
    refine (I.hok b ob e).stay (fun c w' hc q => (hs.2 c ?_).trans q) (fun _ q => q) fun _ _ q => q
    rintro rfl
    rcases hc with rfl | hc
    · rw [hfree] at e; cases e
    · rw [hfree] at hc; cases hc
  rcases hx with hk | hk
  · refine wpAny_storeName_local hk hn (fun h' hn' hs => ?_) hcls
    obtain ⟨oL, _, _, hoL, _⟩ := id hn
    refine h _ ⟨I.ok, I.os, I.bare, ⟨fun b o e n hb hx => ?_, fun b o e n hb hx => ?_, I.base.free, fun b o e hx => ?_, I.base.tups, I.base.frzs, I.base.tbls⟩, ⟨_, hn', fun j y v' e1 e2 e3 => ?_⟩, fun y c e => ?_, I.free, I.freeC, fun p hp => ?_, tracked ⟨oL, hoL, I.free⟩ hs, by simpa using I.len⟩ ⟨_, hs, .inl rfl⟩
    · exact (hs.2 b (Nat.ne_of_lt (Nat.lt_of_lt_of_le (Heap.lt_size e) I.ok.above))).trans (I.base.keep b o e n hb hx)
    · obtain ⟨sl, e1⟩ := I.base.slot b o e n hb hx
      exact ⟨sl, (hs.2 b (Nat.ne_of_lt (Nat.lt_of_lt_of_le (Heap.lt_size e) I.ok.above))).trans e1⟩
    · obtain ⟨o', e1⟩ := I.base.there b o e hx
      exact ⟨o', (hs.2 b (Nat.ne_of_lt (Nat.lt_of_lt_of_le (Heap.lt_size e) I.ok.above))).trans e1⟩
    · by_cases hj : j = i
      · subst hj
        rw [hi] at e1; cases e1
        rw [List.getElem?_set_self hiσ] at e2
        cases e2
        exact ⟨u, r, .inl ⟨hk, by simp⟩⟩
      · rw [List.getElem?_set_ne (Ne.symm hj)] at e2
        obtain ⟨u', r', q⟩ := hl j y v' e1 e2 e3
        refine ⟨u', r', ?_⟩
        rcases q with ⟨k, e⟩ | ⟨k, c, e, z⟩
        · refine .inl ⟨k, ?_⟩
          have : y ≠ x := fun e => hj (nodup_ix hN e1 (e ▸ hi))
          simp [this, e]
        · exact .inr ⟨k, c, e, z.sameBut hs (cne y c e)⟩
    · obtain ⟨w', z⟩ := I.cell y c e
      exact ⟨w', z.sameBut hs (cne y c e)⟩
    · obtain ⟨e, n, ne, nf, d⟩ := I.pin p hp
      exact ⟨(hs.2 p.1 ne).trans e, n, ne, nf, d⟩
  · have hfn : X.fn x = true := by
      rcases hf with z | z
      · exact z
      · rw [z] at hk; cases hk
    obtain ⟨c, hc⟩ := I.ok.has x (.inl hk)
    obtain ⟨w', z⟩ := I.cell x c hc
    refine wpAny_storeName_cell I.ok.kind hk hc z (fun h' hc' hs => ?_)
    obtain ⟨oc, hoc, hocd⟩ := id z
    refine h { s with heap := h' } ⟨I.ok, I.os, I.bare, ⟨fun b o e n hb hx => ?_, fun b o e n hb hx => ?_, I.base.free, fun b o e hx => ?_, I.base.tups, I.base.frzs, I.base.tbls⟩, ⟨m, hn.sameBut hs (Ne.symm (cne x c hc)), fun j y v' e1 e2 e3 => ?_⟩, fun y c' e => ?_, I.free, I.freeC, fun p hp => ?_, tracked ⟨oc, hoc, I.freeC x c hc⟩ hs, by simpa using I.len⟩ ⟨c, hs, .inr hc⟩
    · exact (hs.2 b (Nat.ne_of_lt (Nat.lt_of_lt_of_le (Heap.lt_size e) (I.ok.cab x c hfn hc)))).trans (I.base.keep b o e n hb hx)
    · obtain ⟨sl, e1⟩ := I.base.slot b o e n hb hx
      exact ⟨sl, (hs.2 b (Nat.ne_of_lt (Nat.lt_of_lt_of_le (Heap.lt_size e) (I.ok.cab x c hfn hc)))).trans e1⟩
    · obtain ⟨o', e1⟩ := I.base.there b o e hx
      exact ⟨o', (hs.2 b (Nat.ne_of_lt (Nat.lt_of_lt_of_le (Heap.lt_size e) (I.ok.cab x c hfn hc)))).trans e1⟩
    · by_cases hj : j = i
      · subst hj
        rw [hi] at e1; cases e1
        rw [List.getElem?_set_self hiσ] at e2
        cases e2
        exact ⟨u, r, .inr ⟨.inl hk, c, hc, hc'⟩⟩
      · rw [List.getElem?_set_ne (Ne.symm hj)] at e2
        obtain ⟨u', r', q⟩ := hl j y v' e1 e2 e3
        refine ⟨u', r', ?_⟩
        rcases q with q | ⟨k, c', e, z'⟩
        · exact .inl q
        · refine .inr ⟨k, c', e, z'.sameBut hs ?_⟩
          rintro rfl
          exact hj (nodup_ix hN e1 (I.ok.inj _ _ _ e hc ▸ hi))
    · by_cases hcc : c' = c
      · subst hcc; exact ⟨_, hc'⟩
      · obtain ⟨w2, z2⟩ := I.cell y c' e
        exact ⟨w2, z2.sameBut hs hcc⟩
    · obtain ⟨e, n, ne, nf, d⟩ := I.pin p hp
      refine ⟨(hs.2 p.1 ?_).trans e, n, ne, nf, d⟩
      intro q
      rw [q, hoc] at e
      have q' : oc = p.2 := Option.some.inj e
      exact d w' (by rw [← q']; exact hocd)
theorem store_ok {M : Model} {A : Around} {E : Value → Shared → Prop} {i : Nat} {x : Str} {v : V} {u : Value} {Q : Unit → Shared → Prop} (I : Inv X pins σ H s) (hN : X.N.Nodup) (hi : X.N[i]? = some x) (hx : Loc X.env.scope x) (r : RelV v u)
    (h : ∀ s', Inv X pins (σ.set i (some v)) H s' → Q () s') (hf : X.fn x = true ∨ X.env.scope.names.lookup x = some .local := by first | exact .inl rfl | exact .inr rfl | assumption) : wpAny M A (storeName X.env x u) Q E s :=
  store_ok2 I hN hi hx r (fun s' I' _ => h s' I') hf
/-- behind a call or a block, the state as it is -/
theorem Inv.call' {s' : Shared} {ch : List Addr} (I : Inv X pins σ H s) (ho : s'.os = s.os) (u : Un (frs X.stack) ch H H' s.heap s'.heap) (hok : HOk X.prog X.w H' s'.heap) (hg : AllBare s'.gens)
    (hch : ∀ b ∈ ch, (b ∈ X.ex ∨ X.s_0.heap.objs.size ≤ b) ∧ b ≠ X.env.locals ∧ (∀ x c, X.env.cells.lookup x = some c → c ≠ b) ∧ ∀ p ∈ X.pn ++ pins, p.1 ≠ b) : Inv X pins σ H' s' := by
  obtain ⟨h', g', d', t', o'⟩ := s'
  have e : o' = s.os := ho
  subst e
  exact I.call (g' := g') (t' := t') (d' := d') u hok hg hch
end

/-! ### the judgements -/
/-- an exception: its class, its own dict's address (where it has one), the abstract heap behind it -/
abbrev XK := Value → Option Addr → Hp → Prop
abbrev St := List (Option V)
abbrev VK := V → Hp → Prop
/-- an expression's reading; a test's; an argument list's -/
abbrev TE := St → Hp → VK → Prop
abbrev TT := St → Hp → (Bool → Hp → Prop) → Prop
abbrev TA := St → Hp → (List V → Hp → Prop) → Prop
/-- what is wanted behind a statement -/
structure Ends where
  nx : St → Hp → Prop
  rt : VK
  bk : St → Hp → Prop := fun _ _ => False
  ct : St → Hp → Prop := fun _ _ => False
abbrev TS := Ends → St → Hp → Prop

def EP (X : Cx) (pins : List (Addr × Obj)) (σ : St) (Q : VK) (u : Value) (s' : Shared) : Prop := ∃ v H', Inv X pins σ H' s' ∧ RelV v u ∧ Q v H'
def TP (X : Cx) (pins : List (Addr × Obj)) (σ : St) (Q : Bool → Hp → Prop) (b : Bool) (s' : Shared) : Prop := ∃ H', Inv X pins σ H' s' ∧ Q b H'
def AP (X : Cx) (pins : List (Addr × Obj)) (σ : St) (Q : List V → Hp → Prop) (us : List Value) (s' : Shared) : Prop := ∃ vs H', Inv X pins σ H' s' ∧ Vals vs us ∧ Q vs H'
def SP (X : Cx) (pins : List (Addr × Obj)) (D : Ends) (f : Flow) (s' : Shared) : Prop :=
  match f with
  | .next => ∃ σ' H', Inv X pins σ' H' s' ∧ D.nx σ' H'
  | .brk => ∃ σ' H', Inv X pins σ' H' s' ∧ D.bk σ' H'
  | .cont => ∃ σ' H', Inv X pins σ' H' s' ∧ D.ct σ' H'
  | .ret u => ∃ v σ' H', Inv X pins σ' H' s' ∧ RelV v u ∧ D.rt v H'

def PE (X : Cx) (e : Expr) (t : TE) : Prop :=
  ∀ (pins : List (Addr × Obj)) (s : Shared) (σ : St) (H : Hp) (Q : VK), Inv X pins σ H s → t σ H Q → wpAny (model X.prog X.w) X.A (eval e X.env) (EP X pins σ Q) X.xe s
def PT (X : Cx) (e : Expr) (t : TT) : Prop :=
  ∀ (pins : List (Addr × Obj)) (s : Shared) (σ : St) (H : Hp) (Q : Bool → Hp → Prop), Inv X pins σ H s → t σ H Q → wpAny (model X.prog X.w) X.A (isTrue e X.env (eval e X.env)) (TP X pins σ Q) X.xe s
/-- a test whatever its 'whole' is (and, or) -/
def PW (X : Cx) (e : Expr) (t : TT) : Prop :=
  ∀ (whole : Sem Value) (pins : List (Addr × Obj)) (s : Shared) (σ : St) (H : Hp) (Q : Bool → Hp → Prop), Inv X pins σ H s → t σ H Q → wpAny (model X.prog X.w) X.A (isTrue e X.env whole) (TP X pins σ Q) X.xe s
theorem PW.pt {X : Cx} {e : Expr} {t : TT} (h : PW X e t) : PT X e t := h _
/-- an argument list (no star), from the left -/
def PA (X : Cx) (es : List Expr) (t : TA) : Prop :=
  ∀ (pos : Pos) (pins : List (Addr × Obj)) (s : Shared) (σ : St) (H : Hp) (Q : List V → Hp → Prop), Inv X pins σ H s → t σ H Q → wpAny (model X.prog X.w) X.A (spliced (backTo pos (starEach es X.env))) (AP X pins σ Q) X.xe s
def PS (X : Cx) (st : Stmt) (t : TS) : Prop :=
  ∀ (pins : List (Addr × Obj)) (s : Shared) (σ : St) (H : Hp) (D : Ends), Inv X pins σ H s → t D σ H → wpAny (model X.prog X.w) X.A (exec st X.env) (SP X pins D) X.xe s
def PSs (X : Cx) (st : List Stmt) (t : TS) : Prop :=
  ∀ (pins : List (Addr × Obj)) (s : Shared) (σ : St) (H : Hp) (D : Ends), Inv X pins σ H s → t D σ H → wpAny (model X.prog X.w) X.A (execs st X.env) (SP X pins D) X.xe s
/-- weaken the end -/
theorem thn {α : Type} {t : Sem α} {Q Q' : α → Shared → Prop} {M : Model} {A : Around} {E : Value → Shared → Prop} {s : Shared} (h : wpAny M A t Q E s) (hQ : ∀ a s, Q a s → Q' a s) : wpAny M A t Q' E s := wpAny_mono h hQ fun _ _ x => x
end L2

namespace L2
open PySem PySem.Spec PyProof.Rows
section
variable {X : Cx}

/-! ### names and constants -/
def tVar (i : Nat) : TE := fun σ H Q => ∃ v, σ[i]? = some (some v) ∧ Q v H
def tC (v : V) : TE := fun _ H Q => Q v H
theorem pe_var {i : Nat} {x : Str} {pos : Pos} (hN : X.N[i]? = some x) (hv : Vis X.env.scope x) (hd : (x == ("__debug__" : Str)) = false := by decide) (hcd : (x == ("__classdict__" : Str)) = false := by decide) : PE X (.Name x pos) (tVar i) := by
  intro pins s σ H Q I h
  obtain ⟨v, e, h⟩ := h
  obtain ⟨m, hn, hl⟩ := I.loc
  obtain ⟨u, r, l⟩ := hl i x v hN e hv
  have fin : EP X pins σ Q u s := ⟨v, H, I, r, h⟩
  rcases l with ⟨hk, hm⟩ | ⟨hk, c, hc, hcell⟩
  · exact wpAny_Name (wpAny_loadName_local I.ok.kind hk hn hm fin) hd
  · rcases hk with hk | hk
    · exact wpAny_Name (wpAny_loadName_cell I.ok.kind hk hc hcell fin) hd
    · exact wpAny_Name (wpAny_loadName_free I.ok.kind hk hc hcell fin hcd) hd
theorem pe_int {i j pos} : PE X (.Constant (.int i) j pos) (tC (.int i)) := fun _ _ _ H _ I h => wpAny_Constant_int ⟨.int i, H, I.tok _, ⟨_, rfl⟩, h⟩
theorem pe_bl {b j pos} : PE X (.Constant (.bool b) j pos) (tC (.bl b)) := fun _ _ _ H _ I h => Constant_bool ⟨.bl b, H, I, rfl, h⟩
theorem pe_non {j pos} : PE X (.Constant .none j pos) (tC .non) := fun _ _ _ H _ I h => Constant_none ⟨.non, H, I, rfl, h⟩
/-- a global name of the def -/
def Gl (X : Cx) (x : Str) : Prop := X.env.kindOf x = some .globalImplicit
theorem ld_glob {E : Value → Shared → Prop} {pins : List (Addr × Obj)} {s : Shared} {σ : St} {H : Hp} {x : Str} {u : Value} {pos : Pos} {Q : Value → Shared → Prop} (I : Inv X pins σ H s) (hg : Gl X x) (hm : X.mg x = some u) (h : Q u s)
    (hd : (x == ("__debug__" : Str)) = false := by decide) : wpAny (model X.prog X.w) X.A (eval (.Name x pos) X.env) Q E s :=
  Calls.Name_function_global I.ok.kind hg (Calls.loadGlobal_global (by rw [I.ok.glob]; exact I.mod.glob.keeps I.bk) hm h) hd
theorem ld_blt {E : Value → Shared → Prop} {pins : List (Addr × Obj)} {s : Shared} {σ : St} {H : Hp} {x : Str} {u : Value} {pos : Pos} {Q : Value → Shared → Prop} (I : Inv X pins σ H s) (hg : Gl X x) (hm : X.mg x = none) (hv : bootBuiltins x = some u) (h : Q u s)
    (hn : x ≠ "__name__" := by decide) (hd : (x == ("__debug__" : Str)) = false := by decide) : wpAny (model X.prog X.w) X.A (eval (.Name x pos) X.env) Q E s := by
  obtain ⟨mb, h1, h2⟩ := I.mod.blt
  exact Calls.Name_function_global I.ok.kind hg (Calls.loadGlobal_builtin (by rw [I.ok.glob]; exact I.mod.glob.keeps I.bk) hm (by rw [I.ok.blt]; exact h1.keeps I.bk) ((h2 x hn).trans hv) h) hd
/-- a module's constant, a class, a function, as a value -/
theorem pe_glob {x : Str} {v : V} {u : Value} {pos : Pos} (hg : Gl X x) (hm : X.mg x = some u) (r : RelV v u) (hd : (x == ("__debug__" : Str)) = false := by decide) : PE X (.Name x pos) (tC v) :=
  fun _ _ _ H _ I h => ld_glob I hg hm ⟨v, H, I, r, h⟩ hd
/-! ### arithmetic -/
variable {a b : Expr} {ta tb : TE} {pos : Pos}
/-! ### comparisons -/
/-- a comparison as a value, as a test -/
def tB (t : TE) : TT := fun σ H Q => t σ H fun x H1 => ∃ c, x = .bl c ∧ Q c H1
/-- an expression whose value is a bool, as a test -/
theorem pt_val {e : Expr} {t : TE} (h : PE X e t) (he : ∀ whole, isTrue e X.env whole = (do let v ← whole; standAt e.pos; holding [v] (truthy v)) := by intro _; rfl) : PT X e (tB t) := by
  intro pins s σ H Q I hw
  refine isTrue_plain (thn (h pins s σ H _ I hw) fun v s1 ⟨x, H1, I1, r1, q1⟩ => ?_) (he _)
  obtain ⟨d, rfl, q⟩ := q1
  cases r1
  exact wpAny_truthy_bool ⟨H1, I1, q⟩

/-! ### and, or, not -/
variable {tA tB' : TT} {rest : List Expr}
def tAnd (t u : TT) : TT := fun σ H Q => t σ H fun c H1 => if c = true then u σ H1 Q else Q false H1
def tOr (t u : TT) : TT := fun σ H Q => t σ H fun c H1 => if c = true then Q true H1 else u σ H1 Q
def tNot (t : TT) : TT := fun σ H Q => t σ H fun c H1 => Q (!c) H1
theorem pw_and1 (ha : PT X a tA) : PW X (.BoolOp .And [a] pos) tA := by
  intro wh pins s σ H Q I h
  refine isTrue_and (thn (ha pins s σ H Q I h) fun c s1 e => ?_)
  cases c with
  | true => exact isTrue_and_nil e
  | false => exact e
theorem pw_or1 (ha : PT X a tA) : PW X (.BoolOp .Or [a] pos) tA := by
  intro wh pins s σ H Q I h
  refine isTrue_or (thn (ha pins s σ H Q I h) fun c s1 e => ?_)
  cases c with
  | false => exact isTrue_or_nil e
  | true => exact e
theorem pw_and (ha : PT X a tA) (hb : PW X (.BoolOp .And (b :: rest) pos) tB') : PW X (.BoolOp .And (a :: b :: rest) pos) (tAnd tA tB') := by
  intro wh pins s σ H Q I h
  refine isTrue_and (thn (ha pins s σ H _ I h) fun c s1 ⟨H1, I1, q1⟩ => ?_)
  cases c with
  | true => exact hb wh pins s1 σ H1 Q I1 q1
  | false => exact ⟨H1, I1, q1⟩
theorem pw_or (ha : PT X a tA) (hb : PW X (.BoolOp .Or (b :: rest) pos) tB') : PW X (.BoolOp .Or (a :: b :: rest) pos) (tOr tA tB') := by
  intro wh pins s σ H Q I h
  refine isTrue_or (thn (ha pins s σ H _ I h) fun c s1 ⟨H1, I1, q1⟩ => ?_)
  cases c with
  | true => exact ⟨H1, I1, q1⟩
  | false => exact hb wh pins s1 σ H1 Q I1 q1
theorem pt_not (ha : PT X a tA) : PT X (.UnaryOp .Not a pos) (tNot tA) := by
  intro pins s σ H Q I h
  exact isTrue_not (ha pins s σ H (fun c H1 => Q (!c) H1) I h)
end
end L2

namespace L2
open PySem PySem.Spec PyProof.Rows

/-! ### a list, a tuple that is read: tracked, frozen, or an object of the module -/
def SqL (K : PySem.W.Frag) (H : Hp) (a : Addr) (xs : List V) : Prop :=
  Rd H a (.lst xs) ∨
    ∃ (o : Obj) (its : Array Value) (n : Nat), K.lookup a = some o ∧ o.cls = .type "list" ∧ o.dict = none ∧ o.data = .seq its n ∧ its.size ≤ sizeLine ∧ Vals xs its.toList
def SqT (K : PySem.W.Frag) (H : Hp) (a : Addr) (xs : List V) : Prop :=
  Rd H a (.tup xs) ∨
    ∃ (o : Obj) (its : Array Value) (n : Nat), K.lookup a = some o ∧ o.cls = .type "tuple" ∧ o.data = .seq its n ∧ its.size ≤ sizeLine ∧ Vals xs its.toList
def absV : Value → Option V
  | .none => some .non
  | .bool b => some (.bl b)
  | .int i _ => some (.int i)
  | .str x _ => some (.str x)
  | .bytes b _ => some (.byt b)
  | .float b _ => some (.flt b)
  | .ref a => some (.ref a)
  | .type n => some (.ty n)
  | _ => none
theorem RelV.abs {x : V} {u : Value} (r : RelV x u) : absV u = some x := by
  cases x with
  | non => cases r; rfl
  | bl _ => cases r; rfl
  | int _ => obtain ⟨t, rfl⟩ := r; rfl
  | str _ => obtain ⟨t, rfl⟩ := r; rfl
  | byt _ => obtain ⟨t, rfl⟩ := r; rfl
  | flt _ => obtain ⟨t, rfl⟩ := r; rfl
  | ref _ => cases r; rfl
  | ty _ => cases r; rfl
theorem RelV.inj {x y : V} {u : Value} (r : RelV x u) (q : RelV y u) : x = y := Option.some.inj (r.abs.symm.trans q.abs)
theorem Vals.inj : ∀ {xs ys : List V} {us : List Value}, Vals xs us → Vals ys us → xs = ys
  | _, _, _, .nil, .nil => rfl
  | _, _, _, .cons r t, .cons r' t' => by rw [r.inj r', Vals.inj t t']
section
variable {X : Cx} {pins : List (Addr × Obj)} {σ : St} {H : Hp} {s : Shared} {a : Addr} {xs ys : List V}
theorem SqL.of {K : PySem.W.Frag} (h : H a = some (.lst xs)) : SqL K H a xs := .inl (.inl h)
theorem SqT.of {K : PySem.W.Frag} (h : H a = some (.tup xs)) : SqT K H a xs := .inl (.inl h)
theorem Inv.list (I : Inv X pins σ H s) (h : SqL X.K H a xs) : ∃ its : List Value, Vals xs its ∧ PlainL s.heap a its.toArray ∧ xs.length ≤ sizeLine := by
  rcases h with h | ⟨o, its, n, hk, hc, hd, hs, hz, r⟩
  · obtain ⟨z, its, n, r, e⟩ := h.ok I.hok
    exact ⟨its, r, ⟨_, n, e, rfl, rfl, rfl⟩, z⟩
  · refine ⟨its.toList, r, ⟨o, n, I.kIn a o hk, hc, hd, by simpa using hs⟩, ?_⟩
    have e := r.length
    simp only [Array.length_toList] at e
    omega
theorem Inv.tuple (I : Inv X pins σ H s) (h : SqT X.K H a xs) : ∃ its : List Value, Vals xs its ∧ IsTup s.heap a its.toArray ∧ xs.length ≤ sizeLine := by
  rcases h with h | ⟨o, its, n, hk, hc, hs, hz, r⟩
  · obtain ⟨z, its, r, p⟩ := h.ok I.hok
    exact ⟨its, r, p, z⟩
  · refine ⟨its.toList, r, ⟨o, I.kIn a o hk, hc, n, by simpa using hs⟩, ?_⟩
    have e := r.length
    simp only [Array.length_toList] at e
    omega
theorem Inv.list_inj (I : Inv X pins σ H s) (h : SqL X.K H a xs) (h' : SqL X.K H a ys) : xs = ys := by
  obtain ⟨its, r, ⟨o, n, e, _, _, d⟩, _⟩ := I.list h
  obtain ⟨its', r', ⟨o', n', e', _, _, d'⟩, _⟩ := I.list h'
  rw [e] at e'; cases e'
  rw [d] at d'
  injection d' with d1 _
  have : its = its' := by simpa using congrArg Array.toList d1
  subst this
  exact r.inj r'
end

/-! ### another wish about exceptions -/
abbrev Cx.wish (X : Cx) (E : Value → Shared → Prop) : Cx := { X with xe := E }
/-- no exception leaves -/
abbrev Cx.nox (X : Cx) : Cx := X.wish fun _ _ => False
theorem Cx.Ok.wish {X : Cx} (ok : X.Ok) (E : Value → Shared → Prop) : (X.wish E).Ok :=
  ⟨ok.mod, ok.kind, ok.glob, ok.blt, ok.above, ok.inj, ok.has, ok.cab, ok.hd, ok.frames, ok.stk, ok.exf, ok.bs, ok.bsz, ok.noex, ok.exfs, ok.funs, ok.frf⟩
theorem Cx.Ok.unwish {X : Cx} {E : Value → Shared → Prop} (ok : (X.wish E).Ok) : X.Ok :=
  ⟨ok.mod, ok.kind, ok.glob, ok.blt, ok.above, ok.inj, ok.has, ok.cab, ok.hd, ok.frames, ok.stk, ok.exf, ok.bs, ok.bsz, ok.noex, ok.exfs, ok.funs, ok.frf⟩
section
variable {X : Cx} {pins : List (Addr × Obj)} {σ : St} {H : Hp} {s : Shared} {E : Value → Shared → Prop}
theorem Inv.wish (I : Inv X pins σ H s) (E : Value → Shared → Prop) : Inv (X.wish E) pins σ H s := ⟨I.ok.wish E, I.os, I.bare, I.base, I.loc, I.cell, I.free, I.freeC, I.pin, I.hok, I.len⟩
theorem Inv.unwish (I : Inv (X.wish E) pins σ H s) : Inv X pins σ H s := ⟨I.ok.unwish, I.os, I.bare, I.base, I.loc, I.cell, I.free, I.freeC, I.pin, I.hok, I.len⟩
theorem SP.unwish {D : Ends} {f : Flow} {s' : Shared} (h : SP (X.wish E) pins D f s') : SP X pins D f s' := by
  cases f with
  | next => obtain ⟨σ', H', I, q⟩ := h; exact ⟨σ', H', I.unwish, q⟩
  | brk => obtain ⟨σ', H', I, q⟩ := h; exact ⟨σ', H', I.unwish, q⟩
  | cont => obtain ⟨σ', H', I, q⟩ := h; exact ⟨σ', H', I.unwish, q⟩
  | ret u => obtain ⟨v, σ', H', I, r, q⟩ := h; exact ⟨v, σ', H', I.unwish, r, q⟩
theorem PSs.nox {st : List Stmt} {t : TS} (h : PSs X.nox st t) : PSs X st t := fun pins s σ H D I hw =>
  wpAny_mono (h pins s σ H D (I.wish _) hw) (fun _ _ q => q.unwish) fun _ _ z => False.elim z
end

/-! ### blocks and small statements -/
section
variable {X : Cx} {st : Stmt} {rest : List Stmt} {t u : TS} {e : Expr} {te : TE} {pos : Pos}
def tNext : TS := fun D σ H => D.nx σ H
def tSeq (t u : TS) : TS := fun D σ H => t { D with nx := u D } σ H
theorem pss_nil : PSs X [] tNext := fun _ _ σ H _ I h => wpAny_execs_nil ⟨σ, H, I, h⟩
theorem pss_cons (h1 : PS X st t) (h2 : PSs X rest u) : PSs X (st :: rest) (tSeq t u) := by
  intro pins s σ H D I h
  refine wpAny_execs_cons (thn (h1 pins s σ H { D with nx := u D } I h) fun f s1 q => ?_)
  cases f with
  | next =>
    obtain ⟨σ', H', I', q⟩ := q
    exact h2 pins s1 σ' H' D I' q
  | ret v => exact q
  | brk => exact q
  | cont => exact q
theorem pss_one (h1 : PS X st t) : PSs X [st] t := by
  intro pins s σ H D I h
  refine wpAny_execs_cons (thn (h1 pins s σ H D I h) fun f s1 q => ?_)
  cases f with
  | next => exact wpAny_execs_nil q
  | ret v => exact q
  | brk => exact q
  | cont => exact q
/-- in a def's body nothing is shown -/
theorem Inv.quiet {pins : List (Addr × Obj)} {σ : St} {H : Hp} {s : Shared} (I : Inv X pins σ H s) : interactive X.env = false := by simp [interactive, I.ok.kind]
/-- an expression whose value is dropped -/
def tDrop (te : TE) : TS := fun D σ H => te σ H fun _ H1 => D.nx σ H1
theorem ps_expr (he : PE X e te) (hs : swapsWith e none pos.line X.env = pure false := by rfl) : PS X (.Expr e pos) (tDrop te) := by
  intro pins s σ H D I h
  exact wpAny_Expr_any (thn (he pins s σ H _ I h) fun v s1 ⟨x, H1, I1, r1, q1⟩ => ⟨σ, H1, I1, q1⟩) I.quiet hs
def tRet (te : TE) : TS := fun D σ H => te σ H D.rt
theorem ps_ret (he : PE X e te) : PS X (.Return (some e) pos) (tRet te) := by
  intro pins s σ H D I h
  exact wpAny_Return_some (thn (he pins s σ H _ I h) fun v s1 ⟨x, H1, I1, r1, q1⟩ => ⟨x, σ, H1, I1, r1, q1⟩)
def tIfS (c : TT) (t u : TS) : TS := fun D σ H => c σ H fun b H1 => if b = true then t D σ H1 else u D σ H1
theorem ps_if {c : Expr} {a b : List Stmt} {tc : TT} (hc : PT X c tc) (ha : PSs X a t) (hb : PSs X b u) : PS X (.If c a b pos) (tIfS tc t u) := by
  intro pins s σ H D I h
  refine wpAny_If (thn (hc pins s σ H _ I h) fun d s1 ⟨H1, I1, q1⟩ => ?_)
  cases d with
  | true => exact ha pins s1 σ H1 D I1 q1
  | false => exact hb pins s1 σ H1 D I1 q1
end

/-! ### targets -/
abbrev TG := V → St → Hp → (St → Hp → Prop) → Prop
abbrev TGs := List V → St → Hp → (St → Hp → Prop) → Prop
def PG (X : Cx) (target : Expr) (t : TG) : Prop :=
  ∀ (pins : List (Addr × Obj)) (s : Shared) (σ : St) (H : Hp) (v : V) (u : Value) (Q : St → Hp → Prop), Inv X pins σ H s → RelV v u → t v σ H Q →
    wpAny (model X.prog X.w) X.A (assign target X.env u) (fun _ s' => ∃ σ' H', Inv X pins σ' H' s' ∧ Q σ' H') X.xe s
/-- several targets, one after another -/
def PGs (X : Cx) (ts : List Expr) (t : TGs) : Prop :=
  ∀ (pins : List (Addr × Obj)) (s : Shared) (σ : St) (H : Hp) (vs : List V) (us : List Value) (Q : St → Hp → Prop), Inv X pins σ H s → Vals vs us → t vs σ H Q →
    wpAny (model X.prog X.w) X.A (assignInOrder ((assignEach ts X.env).map (·.2)) us) (fun _ s' => ∃ σ' H', Inv X pins σ' H' s' ∧ Q σ' H') X.xe s
section
variable {X : Cx} {pos : Pos}
def gName (i : Nat) : TG := fun v σ H Q => Q (σ.set i (some v)) H
theorem pg_name {i : Nat} {x : Str} (hN : X.N.Nodup) (hi : X.N[i]? = some x) (hx : Loc X.env.scope x) (hf : X.fn x = true ∨ X.env.scope.names.lookup x = some .local := by first | exact .inl rfl | exact .inr rfl | assumption) : PG X (.Name x pos) (gName i) := by
  intro pins s σ H v u Q I r h
  exact wpAny_assign_Name (store_ok I hN hi hx r (fun s' I' => ⟨_, H, I', h⟩) hf)
def gNil : TGs := fun vs σ H Q => vs = [] ∧ Q σ H
def gCons (t : TG) (u : TGs) : TGs := fun vs σ H Q => ∃ v r, vs = v :: r ∧ t v σ H fun σ' H' => u r σ' H' Q
theorem pgs_nil : PGs X [] gNil := by
  intro pins s σ H vs us Q I r h
  obtain ⟨e, h⟩ := h
  subst e
  cases r
  exact assignInOrder_nil ⟨σ, H, I, h⟩
theorem pgs_cons {e : Expr} {es : List Expr} {t : TG} {u : TGs} (h1 : PG X e t) (h2 : PGs X es u)
    (hs : (assignEach (e :: es) X.env).map (·.2) = assign e X.env :: (assignEach es X.env).map (·.2) := by rfl) : PGs X (e :: es) (gCons t u) := by
  intro pins s σ H vs us Q I r h
  obtain ⟨v, vr, e1, h⟩ := h
  subst e1
  cases r with
  | cons r rr =>
    rw [hs]
    refine assignInOrder_cons (thn (h1 pins s σ H _ _ _ I r h) fun _ s1 ⟨σ1, H1, I1, q1⟩ => ?_)
    exact h2 pins s1 σ1 H1 _ _ Q I1 rr q1
/-- (a, b, ..) = a tuple of that length -/
def gTup (K : PySem.W.Frag) (n : Nat) (t : TGs) : TG := fun v σ H Q => ∃ a xs, v = .ref a ∧ SqT K H a xs ∧ xs.length = n ∧ t xs σ H Q
theorem pg_tup {es : List Expr} {k : Nat} {t : TGs} {n : Nat} (hc : X.calm = true) (h : PGs X es t)
    (hn : (assignEach es X.env).length = n := by rfl) (hst : (assignEach es X.env).findIdx? (·.1) = none := by rfl) : PG X (.Tuple es k pos) (gTup X.K n t) := by
  intro pins s σ H v u Q I r hw
  obtain ⟨a, xs, e1, hq, hl, hw⟩ := hw
  subst e1
  cases r
  obtain ⟨its, rv, ht, hz⟩ := I.tuple hq
  refine assign_Tuple_tuple (I.ok.hd hc) ht (by simp [hn, ← hl, rv.length]) hst fun h' hx => ?_
  have I1 : Inv X pins σ H { s with heap := h' } := I.kept (t' := s.toks) fun b o e => hx b o (Nat.ne_of_lt (Heap.lt_size e)) e
  exact h pins _ σ H xs _ Q I1 (by simpa using rv) hw
/-- target = value -/
def tAsg (te : TE) (g : TG) : TS := fun D σ H => te σ H fun x H1 => g x σ H1 D.nx
/-- name = value -/
theorem ps_set {i : Nat} {x : Str} {e : Expr} {te : TE} {pos' : Pos} (hN : X.N.Nodup) (hi : X.N[i]? = some x) (hx : Loc X.env.scope x) (he : PE X e te) (hs : swapsWith e (some (.Name x pos')) pos.line X.env = pure false := by rfl) (hf : X.fn x = true ∨ X.env.scope.names.lookup x = some .local := by first | exact .inl rfl | exact .inr rfl | assumption) :
    PS X (.Assign [.Name x pos'] e pos) (tAsg te (gName i)) := by
  intro pins s σ H D I h
  refine wpAny_Assign_Name (thn (he pins s σ H _ I h) fun v s1 ⟨y, H1, I1, r1, q1⟩ => ?_) hs
  exact store_ok I1 hN hi hx r1 (fun s2 I2 => ⟨_, H1, I2, q1⟩) hf
end

/-! ### while -/
section
variable {X : Cx} {pos : Pos}
/-- the invariant W with its measure -/
def tWhile (c : TT) (tb : TS) : TS := fun D σ H => ∃ W : Nat → St → Hp → Prop, (∃ m, W m σ H) ∧ ∀ m σ H, W m σ H →
  c σ H fun b H1 => if b = true then ∃ N : St → Hp → Prop, (∀ σ' H', N σ' H' → ∃ m', m' < m ∧ W m' σ' H') ∧ tb { D with nx := N, ct := N, bk := D.nx } σ H1 else D.nx σ H1
theorem ps_while {c : Expr} {body : List Stmt} {tc : TT} {tb : TS} (hp : PassesOwn (model X.prog X.w) X.A X.env X.xe) (hc : PT X c tc) (hb : PSs X body tb) : PS X (.While c body [] pos) (tWhile tc tb) := by
  intro pins s σ H D I h
  obtain ⟨W, ⟨m0, w0⟩, turn⟩ := h
  refine wpAny_While (codeAny_whileLoop (fun n s' => ∃ σ' H', Inv X pins σ' H' s' ∧ W n σ' H') ?_ m0 ⟨σ, H, I, w0⟩)
  rintro n s1 ⟨σ1, H1, I1, w1⟩
  refine wpAny_passesOwn hp (thn (hc pins s1 σ1 H1 _ I1 (turn n σ1 H1 w1)) fun b s2 ⟨H2, I2, q2⟩ => ?_)
  cases b with
  | true =>
    obtain ⟨N, hN, q2⟩ := q2
    rw [if_pos rfl]
    refine wpAny_passesOwn hp (thn (hb pins s2 σ1 H2 _ I2 q2) fun f s3 q3 => ?_)
    cases f with
    | next =>
      obtain ⟨σ3, H3, I3, n3⟩ := q3
      obtain ⟨m', hm, w3⟩ := hN σ3 H3 n3
      exact ⟨m', hm, σ3, H3, I3, w3⟩
    | cont =>
      obtain ⟨σ3, H3, I3, n3⟩ := q3
      obtain ⟨m', hm, w3⟩ := hN σ3 H3 n3
      exact ⟨m', hm, σ3, H3, I3, w3⟩
    | brk => exact q3
    | ret v => exact q3
  | false =>
    rw [if_neg Bool.false_ne_true]
    exact wpAny_execs_nil ⟨σ1, H2, I2, q2⟩
end

/-! ### what a loop or a comprehension walks -/
/-- at turn i: it yields x (the heap may grow), or it stops -/
structure It where
  go : Nat → Hp → Prop
  yld : Nat → Hp → V → Hp → Prop
  stop : Nat → Hp → Prop
/-- the iterator's own objects may turn: they are not the frame's, not pinned, younger than the entry (or a comprehension's own) -/
def FpOk (X : Cx) (pins : List (Addr × Obj)) (H : Hp) (b : Addr) : Prop :=
  H b = none ∧ b ≠ X.env.locals ∧ b ∉ X.fs ∧ (b ∈ X.ex ∨ X.s_0.heap.objs.size ≤ b) ∧ (∀ x c, X.env.cells.lookup x = some c → c ≠ b) ∧ ∀ p ∈ X.pn ++ pins, p.1 ≠ b
theorem Inv.fpOk {X : Cx} {pins : List (Addr × Obj)} {σ : St} {H H' : Hp} {s : Shared} {b : Addr} (I : Inv X pins σ H s) (hb : s.heap.objs.size ≤ b) (hn : H' b = none) : FpOk X pins H' b := by
  refine ⟨hn, Nat.ne_of_gt (Nat.lt_of_lt_of_le I.lt hb), I.nofs hb, .inr (Nat.le_trans I.sz hb), fun x c e z => ?_, fun p hp z => ?_⟩
  · obtain ⟨v, q⟩ := I.cell x c e
    exact absurd (Nat.lt_of_lt_of_le q.lt (by rw [z]; exact hb)) (Nat.lt_irrefl _)
  · exact absurd (Nat.lt_of_lt_of_le (Heap.lt_size (I.pin p hp).1) (by rw [z]; exact hb)) (Nat.lt_irrefl _)
structure Turn (P : Program) (w : World) (K : PySem.W.Frag) (tg : Expr) (J : It) (fp : List Addr) (it : Addr) (tn : Nat → Heap → Prop) : Prop where
  mem : it ∈ fp
  obj : ∀ i h, tn i h → ∀ b ∈ fp, ∃ o, h.get? b = some o ∧ ∀ v, o.data ≠ .cell v
  keep : ∀ i h h', tn i h → (∀ b ∈ fp, ∀ o, h.get? b = some o → h'.get? b = some o) → tn i h'
  item : ∀ (X : Cx), X.prog = P → X.w = w → X.K = K → X.calm = true → ∀ (i : Nat) (pins : List (Addr × Obj)) (s : Shared) (σ : St) (H : Hp) (E : Value → Shared → Prop), Inv X pins σ H s → (∀ b ∈ fp, FpOk X pins H b) → tn i s.heap → J.go i H →
    wpAny (model P w) X.A (pyNext (.ref it)) (fun r s1 => ∃ u, r = some u ∧
      wpAny (model P w) X.A (letOwnedTupleGo tg (.ref it) u) (fun _ s2 => ∃ x H', Inv X pins σ H' s2 ∧ RelV x u ∧ J.yld i H x H' ∧ tn (i + 1) s2.heap ∧ ∀ b ∈ fp, H' b = none) E s1) E s
  done : ∀ (X : Cx), X.prog = P → X.w = w → X.K = K → X.calm = true → ∀ (i : Nat) (pins : List (Addr × Obj)) (s : Shared) (σ : St) (H : Hp) (E : Value → Shared → Prop), Inv X pins σ H s → (∀ b ∈ fp, FpOk X pins H b) → tn i s.heap → J.stop i H →
    wpAny (model P w) X.A (pyNext (.ref it)) (fun r s1 => r = none ∧ Inv X pins σ H s1) E s
  self : ∀ (A : Around) (i : Nat) (s : Shared) (Q : Value → Shared → Prop) (E : Value → Shared → Prop), tn i s.heap → Q (.ref it) s → wpAny (model P w) A (pyIter (.ref it)) Q E s
abbrev TI := St → Hp → (It → Hp → Prop) → Prop
/-- an iterator has come -/
def PIE (X : Cx) (pins : List (Addr × Obj)) (σ : St) (tg : Expr) (R : It → Hp → Prop) (itv : Value) (s2 : Shared) : Prop :=
  ∃ (it : Addr) (fp : List Addr) (tn : Nat → Heap → Prop) (J : It) (H' : Hp), itv = .ref it ∧ Inv X pins σ H' s2 ∧ Turn X.prog X.w X.K tg J fp it tn ∧ tn 0 s2.heap ∧ (∀ b ∈ fp, FpOk X pins H' b) ∧ R J H'
def PI (X : Cx) (tg iter : Expr) (wi : TI) : Prop :=
  ∀ (pins : List (Addr × Obj)) (s : Shared) (σ : St) (H : Hp) (R : It → Hp → Prop), Inv X pins σ H s → wi σ H R →
    wpAny (model X.prog X.w) X.A (eval iter X.env) (fun v s1 => wpAny (model X.prog X.w) X.A (pyIter v) (PIE X pins σ tg R) X.xe s1) X.xe s

/-- the step ahead of the store is nothing for an iterator that keeps no tuple -/
theorem go_of {M : Model} {A : Around} {E : Value → Shared → Prop} {s : Shared} {tg : Expr} {it : Addr} {u : Value} {o : Obj} {n : String} {vs : Array Value} {Q : Unit → Shared → Prop} (ho : s.heap.get? it = some o) (hc : o.cls = .type n) (hd : o.data = .fields vs)
    (hn : ["enumerate", "zip", "dict_itemiterator", "dict_reverseitemiterator", "odict_iterator", "itertools.zip_longest", "itertools.pairwise"].contains n = false) (hQ : Q () s) : wpAny M A (letOwnedTupleGo tg (.ref it) u) Q E s := by
  unfold letOwnedTupleGo
  cases tg <;> first
    | exact wpAny_pure hQ
    | (cases u <;> first
        | exact wpAny_pure hQ
        | (refine wpAny_bind (wpAny_load ho ?_)
           rw [hc, hd]
           show wpAny M A (if (["enumerate", "zip", "dict_itemiterator", "dict_reverseitemiterator", "odict_iterator", "itertools.zip_longest", "itertools.pairwise"].contains n && vs[0]? == some (rawInt _)) = true then _ else _) Q E s
           rw [if_neg (by intro h; rw [hn, Bool.false_and] at h; cases h)]
           exact wpAny_pure hQ))

/-- the list at a, as it stands at each turn (a loop may append to it) -/
def Itl (K : PySem.W.Frag) (a : Addr) : It :=
  ⟨fun i H => ∃ xs x, SqL K H a xs ∧ xs[i]? = some x, fun i H x H' => H' = H ∧ ∀ xs, SqL K H a xs → xs[i]? = some x, fun i H => ∃ xs, SqL K H a xs ∧ xs.length ≤ i⟩
/-- lo, lo + 1, .. (n of them) -/
def Itr (lo : Int) (n : Nat) : It := ⟨fun i _ => i < n, fun i H x H' => H' = H ∧ x = .int (lo + i), fun i _ => n ≤ i⟩
theorem turn_list {P : Program} {w : World} {K : PySem.W.Frag} {tg : Expr} (a it : Addr) : Turn P w K tg (Itl K a) [it] it (fun i h => h.IsListIter it a i) where
  mem := by simp
  obj := fun i h st b hb => by
    have e : b = it := by simpa using hb
    subst e
    obtain ⟨o, e, c, d⟩ := st
    exact ⟨o, e, fun v z => by rw [d] at z; cases z⟩
  keep := fun i h h' st k => st.at fun o e => k it (by simp) o e
  item := by
    intro X hP hw hK hc i pins s σ H E I hf st hg
    subst hP hw hK
    obtain ⟨xs, x, hq, hx⟩ := hg
    obtain ⟨its, rv, p, hz⟩ := I.list hq
    obtain ⟨u, hu, ru⟩ := rv.get hx
    obtain ⟨f0, f1, f2, f3, f4, f5⟩ := hf it (by simp)
    refine wpAny_pyNext_list_item st p.isList (x := u) (by simpa using hu) fun h' st' sb => ?_
    have I1 : Inv X pins σ H { s with heap := h' } := I.turned (t' := s.toks) (fun b o hb e => (sb.2 b hb).trans e) f0 f1 f3 f4 f5
    obtain ⟨o, e, c, d⟩ := id st'
    exact ⟨u, rfl, go_of (s := { s with heap := h' }) e c d (by decide) ⟨x, H, I1, ru, ⟨rfl, fun ys hy => by rw [I.list_inj hy hq]; exact hx⟩, st', fun b hb => (hf b hb).1⟩⟩
  done := by
    intro X hP hw hK hc i pins s σ H E I hf st hg
    subst hP hw hK
    obtain ⟨xs, hq, hx⟩ := hg
    obtain ⟨its, rv, p, hz⟩ := I.list hq
    obtain ⟨f0, f1, f2, f3, f4, f5⟩ := hf it (by simp)
    have hl := rv.length
    exact wpAny_pyNext_list_end (I.ok.hd hc) st p.isList (by simp; omega) fun h' eb => ⟨rfl, I.turned (t' := s.toks) (fun b o hb e => eb b o hb e) f0 f1 f3 f4 f5⟩
  self := fun _ _ _ _ _ st h => wpAny_pyIter_listiter st h
theorem turn_range {P : Program} {w : World} {K : PySem.W.Frag} {tg : Expr} (it : Addr) (lo : Int) (n : Nat) : Turn P w K tg (Itr lo n) [it] it (fun i h => IsRangeIter h it (lo + (i : Nat) * 1) ((n : Int) - (i : Nat)) 1) where
  mem := by simp
  obj := fun i h st b hb => by
    have e : b = it := by simpa using hb
    subst e
    exact ⟨_, st, fun v z => by
      have z' : Data.fields _ = Data.cell v := z
      cases z'⟩
  keep := fun i h h' st k => k it (by simp) _ st
  item := by
    intro X hP hw hK hc i pins s σ H E I hf st hg
    subst hP hw hK
    obtain ⟨f0, f1, f2, f3, f4, f5⟩ := hf it (by simp)
    have W := Walks.range (prog := X.prog) (w := X.w) (I.ok.hd hc) it lo 1 n
    refine W.item i s _ _ hg st fun v h' tk hv st' kk => ?_
    obtain ⟨t, rfl⟩ := hv
    have I1 : Inv X pins σ H { s with heap := h', toks := tk } := I.turned (fun b o hb e => kk b o (by simpa using hb) e) f0 f1 f3 f4 f5
    refine ⟨_, rfl, go_of (s := { s with heap := h', toks := tk }) (n := "range_iterator") st' rfl rfl (by decide) ⟨.int (lo + i), H, I1, ⟨t, ?_⟩, ⟨rfl, rfl⟩, st', fun b hb => (hf b hb).1⟩⟩
    rw [Int.mul_one]
  done := by
    intro X hP hw hK hc i pins s σ H E I hf st hg
    subst hP hw hK
    obtain ⟨f0, f1, f2, f3, f4, f5⟩ := hf it (by simp)
    exact wpAny_pyNext_range_end (I.ok.hd hc) st (by have : n ≤ i := hg; omega) fun h' eb => ⟨rfl, I.turned (t' := s.toks) (fun b o hb e => eb b o hb e) f0 f1 f3 f4 f5⟩
  self := fun _ _ _ _ _ st h => wpAny_pyIter_rangeiter st h
end L2

namespace L2
open PySem PySem.Spec PyProof.Rows
section
variable {X : Cx} {tg : Expr}
def iList (K : PySem.W.Frag) (tl : TE) : TI := fun σ H R => tl σ H fun x H1 => ∃ a, x = .ref a ∧ (∃ xs, SqL K H1 a xs) ∧ R (Itl K a) H1
theorem pi_list {l : Expr} {tl : TE} (hl : PE X l tl) : PI X tg l (iList X.K tl) := by
  intro pins s σ H R I h
  refine thn (hl pins s σ H _ I h) fun v s1 ⟨x, H1, I1, r1, q1⟩ => ?_
  obtain ⟨a, e, ⟨xs, hq⟩, q⟩ := q1
  subst e
  cases r1
  obtain ⟨its, rv, p, hz⟩ := I1.list hq
  refine wpAny_pyIter_list p.isList ?_
  refine ⟨s1.heap.objs.size, [s1.heap.objs.size], _, _, H1, rfl, I1.kept (t' := s1.toks) fun b o e => Heap.get?_push_of_some _ e, turn_list a _, ⟨_, Heap.get?_push_size _ rfl, rfl, rfl⟩, fun b hb => ?_, q⟩
  have e : b = s1.heap.objs.size := by simpa using hb
  subst e
  exact I1.fpOk (Nat.le_refl _) (I1.hok.fresh (Nat.le_refl _))
/-- a range object just made, walked -/
theorem range_it {pins : List (Addr × Obj)} {σ : St} {H : Hp} {s : Shared} {R : It → Hp → Prop} {E : Value → Shared → Prop} {lo hi : Int} {t u v : Tok} {tk : Nat} (I : Inv X pins σ H s) (h1 : -(2 ^ 62) ≤ lo) (h2 : lo < 2 ^ 62) (h3 : -(2 ^ 62) ≤ hi) (h4 : hi < 2 ^ 62)
    (q : R (Itr lo (hi - lo).toNat) H) : wpAny (model X.prog X.w) X.A (pyIter (.ref s.heap.objs.size)) (PIE X pins σ tg R) E { s with heap := s.heap.push { cls := .type "range", data := .fields #[.int lo t, .int hi u, .int 1 v] }, toks := tk } := by
  refine wpAny_pyIter_range (IsRange.new ..) (small_one h1 h2 h3 h4) ?_
  have I1 : Inv X pins σ H { s with heap := s.heap.push { cls := .type "range", data := .fields #[.int lo t, .int hi u, .int 1 v] }, toks := tk } := I.kept fun b o e => Heap.get?_push_of_some _ e
  refine ⟨(s.heap.push { cls := .type "range", data := .fields #[.int lo t, .int hi u, .int 1 v] }).objs.size, [(s.heap.push { cls := .type "range", data := .fields #[.int lo t, .int hi u, .int 1 v] }).objs.size], _, _, H, rfl,
    I1.kept (t' := tk) fun b o e => Heap.get?_push_of_some _ e, turn_range _ lo (hi - lo).toNat, ?_, fun b hb => ?_, q⟩
  · have e1 : lo + ((0 : Nat) : Int) * 1 = lo := by simp
    have e2 : (((hi - lo).toNat : Nat) : Int) - ((0 : Nat) : Int) = Builtin.Range.rangeSize lo hi 1 := by rw [rangeSize_one]; split <;> omega
    show IsRangeIter _ _ (lo + ((0 : Nat) : Int) * 1) ((((hi - lo).toNat : Nat) : Int) - ((0 : Nat) : Int)) 1
    rw [e1, e2]
    exact Heap.get?_push_size _ rfl
  · have e : b = (s.heap.push { cls := .type "range", data := .fields #[.int lo t, .int hi u, .int 1 v] }).objs.size := by simpa using hb
    subst e
    exact I1.fpOk (Nat.le_refl _) (I1.hok.fresh (Nat.le_refl _))
def iRng1 (ta : TA) : TI := fun σ H R => ta σ H fun vs H1 => ∃ j : Int, vs = [.int j] ∧ -(2 ^ 62) ≤ j ∧ j < 2 ^ 62 ∧ R (Itr 0 j.toNat) H1
def iRng2 (ta : TA) : TI := fun σ H R => ta σ H fun vs H1 => ∃ i j : Int, vs = [.int i, .int j] ∧ (-(2 ^ 62) ≤ i ∧ i < 2 ^ 62 ∧ -(2 ^ 62) ≤ j ∧ j < 2 ^ 62) ∧ R (Itr i (j - i).toNat) H1
theorem pi_range1 {a : Expr} {ta : TA} {p pos : Pos} (hg : Gl X "range") (hm : X.mg "range" = none) (ha : PA X [a] ta) (hs : starEach [a] X.env = [(false, eval a X.env)] := by rfl) : PI X tg (.Call (.Name "range" p) [a] [] pos) (iRng1 ta) := by
  intro pins s σ H R I h
  refine Call_ (ld_blt I hg hm boot_range (PyProof.Rows.callWith_type1 (thn (ha pos pins s σ H _ I h) fun us s1 ⟨vs, H1, I1, r1, q1⟩ => ?_) hs rfl))
  obtain ⟨j, e, q1, q2, q⟩ := q1
  subst e
  cases r1 with
  | cons r rr =>
    cases rr
    obtain ⟨t, rfl⟩ := r
    exact call_range_1 (range_it I1 (by omega) (by omega) q1 q2 (by simpa using q))
theorem pi_range2 {a b : Expr} {ta : TA} {p pos : Pos} (hg : Gl X "range") (hm : X.mg "range" = none) (ha : PA X [a, b] ta) (hs : starEach [a, b] X.env = [(false, eval a X.env), (false, eval b X.env)] := by rfl) (hs2 : starEach [b] X.env = [(false, eval b X.env)] := by rfl) :
    PI X tg (.Call (.Name "range" p) [a, b] [] pos) (iRng2 ta) := by
  intro pins s σ H R I h
  refine Call_ (ld_blt I hg hm boot_range (PyProof.Rows.callWith_type1 (thn (ha pos pins s σ H _ I h) fun us s1 ⟨vs, H1, I1, r1, q1⟩ => ?_) (by rw [hs, hs2]) (by rw [hs2]; rfl)))
  obtain ⟨i, j, e, ⟨q1, q2, q3, q4⟩, q⟩ := q1
  subst e
  cases r1 with
  | cons r rr =>
    cases rr with
    | cons r' rr =>
      cases rr
      obtain ⟨t, rfl⟩ := r
      obtain ⟨t', rfl⟩ := r'
      exact call_range_2 (range_it I1 q1 q2 q3 q4 q)

/-! ### for -/
/-- W: the invariant by the turn and a measure; N: what the body is to reach -/
def tFor (wi : TI) (g : TG) (tb : TS) : TS := fun D σ H => wi σ H fun J H1 => ∃ W : Nat → Nat → St → Hp → Prop, (∃ m, W 0 m σ H1) ∧ ∀ i m σ H, W i m σ H →
  (J.stop i H ∧ D.nx σ H) ∨ (J.go i H ∧ ∃ N : St → Hp → Prop, (∀ σ' H', N σ' H' → ∃ m', m' < m ∧ W (i + 1) m' σ' H') ∧ ∀ x H', J.yld i H x H' → g x σ H' fun σ2 H2 => tb { D with nx := N, ct := N, bk := D.nx } σ2 H2)
/-- the records at fp as they stand -/
def pinsAt (fp : List Addr) (h : Heap) : List (Addr × Obj) := fp.filterMap fun b => (h.get? b).map fun o => (b, o)
theorem mem_pinsAt {fp : List Addr} {h : Heap} {b : Addr} {o : Obj} (hb : b ∈ fp) (e : h.get? b = some o) : (b, o) ∈ pinsAt fp h := List.mem_filterMap.mpr ⟨b, hb, by rw [e]; rfl⟩
theorem of_pinsAt {fp : List Addr} {h : Heap} {p : Addr × Obj} (hp : p ∈ pinsAt fp h) : p.1 ∈ fp ∧ h.get? p.1 = some p.2 := by
  obtain ⟨b, hb, e⟩ := List.mem_filterMap.mp hp
  cases q : h.get? b with
  | none => rw [q] at e; cases e
  | some o =>
    rw [q] at e
    have e' : (b, o) = p := Option.some.inj e
    subst e'
    exact ⟨hb, q⟩
theorem Inv.pinned {pins : List (Addr × Obj)} {σ : St} {H : Hp} {s : Shared} {fp : List Addr} (I : Inv X pins σ H s) (hf : ∀ b ∈ fp, FpOk X pins H b) (ho : ∀ b ∈ fp, ∃ o, s.heap.get? b = some o ∧ ∀ v, o.data ≠ .cell v) : Inv X (pins ++ pinsAt fp s.heap) σ H s :=
  I.pins_of fun p hp => (List.mem_append.mp hp).elim (fun z => I.pin p (List.mem_append_right _ z)) fun z => by
    obtain ⟨hb, e⟩ := of_pinsAt z
    obtain ⟨f0, f1, f2, _⟩ := hf p.1 hb
    obtain ⟨o, e', d⟩ := ho p.1 hb
    rw [e] at e'; cases e'
    exact ⟨e, f0, f1, f2, d⟩
theorem Inv.unpinned {pins pl : List (Addr × Obj)} {σ : St} {H : Hp} {s : Shared} (I : Inv X (pins ++ pl) σ H s) : Inv X pins σ H s := I.pins_of fun p hp => I.pin p (List.mem_append_right _ (List.mem_append_left _ hp))
theorem ps_for {iter : Expr} {body : List Stmt} {wi : TI} {g : TG} {tb : TS} {pos : Pos} (hp : PassesOwn (model X.prog X.w) X.A X.env X.xe) (hc : X.calm = true) (hi : PI X tg iter wi) (hg : PG X tg g) (hb : PSs X body tb)
    (hs : ∀ x, foldedSetIterable iter X.env x = pure x := by intro _; rfl) : PS X (.For tg iter body [] pos) (tFor wi g tb) := by
  intro pins s σ H D I h
  refine wpAny_For (thn (hi pins s σ H _ I h) fun v s1 h1 => thn h1 fun itv s2 h2 => ?_) hs
  obtain ⟨it, fp, tn, J, H2, e, I2, T, st2, f2, W, ⟨m0, w0⟩, turn⟩ := h2
  subst e
  -- what stays true of the iterator's objects through the loop
  have stat : ∀ {H' : Hp}, (∀ b ∈ fp, H' b = none) → ∀ b ∈ fp, FpOk X pins H' b := fun hn b hb => ⟨hn b hb, (f2 b hb).2⟩
  refine codeAny_forLoop_any (fun n s' => ∃ i σ' H', Inv X pins σ' H' s' ∧ tn i s'.heap ∧ (∀ b ∈ fp, H' b = none) ∧ W i n σ' H') ?_ m0 ⟨0, σ, H2, I2, st2, fun b hb => (f2 b hb).1, w0⟩
  rintro n s3 ⟨i, σ3, H3, I3, st3, fr3, w3⟩
  rcases turn i n σ3 H3 w3 with ⟨stop, qn⟩ | ⟨go, N, hN, step⟩
  · refine wpAny_passesOwn hp (thn (T.done X rfl rfl rfl hc i pins s3 σ3 H3 X.xe I3 (stat fr3) st3 stop) fun r s4 ⟨hr, I4⟩ => ?_)
    subst hr
    exact wpAny_execs_nil ⟨σ3, H3, I4, qn⟩
  · refine wpAny_passesOwn hp (thn (T.item X rfl rfl rfl hc i pins s3 σ3 H3 X.xe I3 (stat fr3) st3 go) fun r s4 ⟨u, hr, h4⟩ => ?_)
    subst hr
    refine wpAny_passesOwn hp (thn h4 fun _ s5 ⟨x, H5, I5, r5, y5, st5, fr5⟩ => ?_)
    have I5' := I5.pinned (stat fr5) (T.obj _ _ st5)
    refine wpAny_passesOwn hp (thn (hg _ s5 σ3 H5 x u _ I5' r5 (step x H5 y5)) fun _ s6 ⟨σ6, H6, I6, q6⟩ => ?_)
    refine wpAny_passesOwn hp (thn (hb _ s6 σ6 H6 _ I6 q6) fun f s7 q7 => ?_)
    have again : ∀ {σ7 : St} {H7 : Hp}, Inv X (pins ++ pinsAt fp s5.heap) σ7 H7 s7 → N σ7 H7 → ∃ m, m < n ∧ ∃ i σ' H', Inv X pins σ' H' s7 ∧ tn i s7.heap ∧ (∀ b ∈ fp, H' b = none) ∧ W i m σ' H' := fun {σ7 H7} I7 n7 => by
      obtain ⟨m', hm, w7⟩ := hN σ7 H7 n7
      refine ⟨m', hm, i + 1, σ7, H7, I7.unpinned, T.keep _ _ _ st5 fun b hb o e => (I7.pin (b, o) (List.mem_append_right _ (List.mem_append_right _ (mem_pinsAt hb e)))).1, fun b hb => ?_, w7⟩
      obtain ⟨o, e, d⟩ := T.obj _ _ st5 b hb
      exact (I7.pin (b, o) (List.mem_append_right _ (List.mem_append_right _ (mem_pinsAt hb e)))).2.1
    cases f with
    | next => obtain ⟨σ7, H7, I7, n7⟩ := q7; exact again I7 n7
    | cont => obtain ⟨σ7, H7, I7, n7⟩ := q7; exact again I7 n7
    | brk => obtain ⟨σ7, H7, I7, q7⟩ := q7; exact ⟨σ7, H7, I7.unpinned, q7⟩
    | ret v => obtain ⟨x7, σ7, H7, I7, r7, q7⟩ := q7; exact ⟨x7, σ7, H7, I7.unpinned, r7, q7⟩
end

/-! ### the forms one uses -/
/-- over a list that the body leaves as it is -/
theorem for_list {K : PySem.W.Frag} {a : Addr} {xs : List V} {g : TG} {tb : TS} {D : Ends} {σ : St} {H : Hp} (Pv : Nat → St → Hp → Prop) (h0 : Pv 0 σ H) (hl : ∀ i σ H, i ≤ xs.length → Pv i σ H → SqL K H a xs)
    (hs : ∀ i x σ H, xs[i]? = some x → Pv i σ H → g x σ H fun σ2 H2 => tb { D with nx := Pv (i + 1), ct := Pv (i + 1), bk := D.nx } σ2 H2) (hd : ∀ σ H, Pv xs.length σ H → D.nx σ H) :
    ∃ W : Nat → Nat → St → Hp → Prop, (∃ m, W 0 m σ H) ∧ ∀ i m σ H, W i m σ H →
      ((Itl K a).stop i H ∧ D.nx σ H) ∨ ((Itl K a).go i H ∧ ∃ N : St → Hp → Prop, (∀ σ' H', N σ' H' → ∃ m', m' < m ∧ W (i + 1) m' σ' H') ∧ ∀ x H', (Itl K a).yld i H x H' → g x σ H' fun σ2 H2 => tb { D with nx := N, ct := N, bk := D.nx } σ2 H2) := by
  refine ⟨fun i m σ H => m = xs.length - i ∧ i ≤ xs.length ∧ Pv i σ H, ⟨xs.length, by simp, Nat.zero_le _, h0⟩, ?_⟩
  rintro i m σ H ⟨rfl, hi, p⟩
  have q := hl i σ H hi p
  by_cases hlt : i < xs.length
  · refine .inr ⟨⟨xs, xs[i], q, by simp [hlt]⟩, Pv (i + 1), fun σ' H' p' => ⟨xs.length - (i + 1), by omega, rfl, hlt, p'⟩, fun x H' y => ?_⟩
    obtain ⟨e, y⟩ := y
    subst e
    exact hs i x σ _ (y xs q) p
  · have e : i = xs.length := by omega
    subst e
    exact .inl ⟨⟨xs, q, Nat.le_refl _⟩, hd σ H p⟩
theorem for_range {lo : Int} {n : Nat} {g : TG} {tb : TS} {D : Ends} {σ : St} {H : Hp} (Pv : Nat → St → Hp → Prop) (h0 : Pv 0 σ H)
    (hs : ∀ i σ H, i < n → Pv i σ H → g (.int (lo + i)) σ H fun σ2 H2 => tb { D with nx := Pv (i + 1), ct := Pv (i + 1), bk := D.nx } σ2 H2) (hd : ∀ σ H, Pv n σ H → D.nx σ H) :
    ∃ W : Nat → Nat → St → Hp → Prop, (∃ m, W 0 m σ H) ∧ ∀ i m σ H, W i m σ H →
      ((Itr lo n).stop i H ∧ D.nx σ H) ∨ ((Itr lo n).go i H ∧ ∃ N : St → Hp → Prop, (∀ σ' H', N σ' H' → ∃ m', m' < m ∧ W (i + 1) m' σ' H') ∧ ∀ x H', (Itr lo n).yld i H x H' → g x σ H' fun σ2 H2 => tb { D with nx := N, ct := N, bk := D.nx } σ2 H2) := by
  refine ⟨fun i m σ H => m = n - i ∧ i ≤ n ∧ Pv i σ H, ⟨n, by simp, Nat.zero_le _, h0⟩, ?_⟩
  rintro i m σ H ⟨rfl, hi, p⟩
  by_cases hlt : i < n
  · refine .inr ⟨hlt, Pv (i + 1), fun σ' H' p' => ⟨n - (i + 1), by omega, rfl, hlt, p'⟩, fun x H' y => ?_⟩
    obtain ⟨e, y⟩ := y
    subst e y
    exact hs i σ _ hlt p
  · have e : i = n := by omega
    subst e
    exact .inl ⟨Nat.le_refl _, hd σ H p⟩
/-- while, by a word and a measure of the state -/
theorem while_by {c : TT} {tb : TS} {D : Ends} {σ : St} {H : Hp} (Pv : St → Hp → Prop) (μ : St → Hp → Nat) (h0 : Pv σ H)
    (hs : ∀ σ H, Pv σ H → c σ H fun b H1 => if b = true then tb { D with nx := fun σ' H' => Pv σ' H' ∧ μ σ' H' < μ σ H, ct := fun σ' H' => Pv σ' H' ∧ μ σ' H' < μ σ H, bk := D.nx } σ H1 else D.nx σ H1)
    (mono : ∀ σ H Q Q', (∀ b H1, Q b H1 → Q' b H1) → c σ H Q → c σ H Q') : tWhile c tb D σ H := by
  refine ⟨fun m σ H => m = μ σ H ∧ Pv σ H, ⟨_, rfl, h0⟩, ?_⟩
  rintro m σ H ⟨rfl, p⟩
  refine mono σ H _ _ (fun b H1 q => ?_) (hs σ H p)
  cases b with
  | true => exact ⟨_, fun σ' H' ⟨p', l⟩ => ⟨_, l, rfl, p'⟩, q⟩
  | false => exact q
end L2

namespace L2
open PySem PySem.Spec PyProof.Rows

abbrev R2 := V → V → Hp → VK → Prop
/-- a two-place operation on values: f is binaryOp op, inplaceOp op or compareOp op -/
def OpR (X : Cx) (f : Value → Value → Sem Value) (r : R2) : Prop :=
  ∀ (pins : List (Addr × Obj)) (s : Shared) (σ : St) (H : Hp) (x y : V) (v u : Value) (Q : VK), Inv X pins σ H s → RelV x v → RelV y u → r x y H Q →
    wpAny (model X.prog X.w) X.A (f v u) (EP X pins σ Q) X.xe s
/-- a one-place operation -/
def UnR (X : Cx) (f : Value → Sem Value) (r : V → Hp → VK → Prop) : Prop :=
  ∀ (pins : List (Addr × Obj)) (s : Shared) (σ : St) (H : Hp) (x : V) (v : Value) (Q : VK), Inv X pins σ H s → RelV x v → r x H Q →
    wpAny (model X.prog X.w) X.A (f v) (EP X pins σ Q) X.xe s
/-- a call of a value that is known (a builtin, a type) with values -/
def CallR (X : Cx) (f : Value) (r : List V → Hp → VK → Prop) : Prop :=
  ∀ (pins : List (Addr × Obj)) (s : Shared) (σ : St) (H : Hp) (xs : List V) (us : List Value) (Q : VK), Inv X pins σ H s → Vals xs us → r xs H Q →
    wpAny (model X.prog X.w) X.A (call f us) (EP X pins σ Q) X.xe s
def tOp (r : R2) (ta tb : TE) : TE := fun σ H Q => ta σ H fun x H1 => tb σ H1 fun y H2 => r x y H2 Q
def tUn (r : V → Hp → VK → Prop) (ta : TE) : TE := fun σ H Q => ta σ H fun x H1 => r x H1 Q
def rI0 (g : Int → Int → V) : R2 := fun x y H Q => ∃ i j, x = .int i ∧ y = .int j ∧ Q (g i j) H
def rU (g : Int → V) : V → Hp → VK → Prop := fun x H Q => ∃ i, x = .int i ∧ Q (g i) H

section
variable {X : Cx} {a b c : Expr} {ta tb tc : TE} {pos : Pos}

theorem binT (ha : PE X a ta) (hb : PE X b tb) {pins : List (Addr × Obj)} {s : Shared} {σ : St} {H : Hp} {R : V → V → Hp → Prop} (I : Inv X pins σ H s)
    (h : ta σ H fun x H1 => tb σ H1 fun y H2 => R x y H2) {Q : Value → Shared → Prop} {f : Value → Value → Sem Value}
    (hf : ∀ v u s2 x y H2, Inv X pins σ H2 s2 → RelV x v → RelV y u → R x y H2 → wpAny (model X.prog X.w) X.A (f v u) Q X.xe s2) :
    wpAny (model X.prog X.w) X.A (eval a X.env) (fun v s₁ => wpAny (model X.prog X.w) X.A (eval b X.env) (fun u s₂ => wpAny (model X.prog X.w) X.A (f v u) Q X.xe s₂) X.xe s₁) X.xe s := by
  refine thn (ha pins s σ H _ I h) fun v s1 ⟨x, H1, I1, r1, q1⟩ => ?_
  refine thn (hb pins s1 σ H1 _ I1 q1) fun u s2 ⟨y, H2, I2, r2, q2⟩ => ?_
  exact hf v u s2 x y H2 I2 r1 r2 q2

theorem pe_op {op : Operator} {r : R2} (ho : OpR X (binaryOp op) r) (ha : PE X a ta) (hb : PE X b tb) : PE X (.BinOp a op b pos) (tOp r ta tb) := by
  intro pins s σ H Q I h
  exact wpAny_BinOp (binT ha hb I h fun v u s2 x y H2 I2 rx ry q => ho pins s2 σ H2 x y v u Q I2 rx ry q)
theorem pe_un {op : UnaryOp} {r : V → Hp → VK → Prop} (ho : UnR X (unaryOp op) r) (ha : PE X a ta) : PE X (.UnaryOp op a pos) (tUn r ta) := by
  intro pins s σ H Q I h
  exact UnaryOp_ (thn (ha pins s σ H _ I h) fun v s1 ⟨x, H1, I1, r1, q1⟩ => ho pins s1 σ H1 x v Q I1 r1 q1)
/-! ### ints -/
theorem opI0 {f : Value → Value → Sem Value} {g : Int → Int → Int}
    (rule : ∀ (i j : Int) (t u : Tok) (s : Shared) (Q : Value → Shared → Prop) (E : Value → Shared → Prop), Q (.int (g i j) s.toks) { s with toks := s.toks + 1 } → wpAny (model X.prog X.w) X.A (f (.int i t) (.int j u)) Q E s) :
    OpR X f (rI0 fun i j => .int (g i j)) := by
  intro pins s σ H x y v u Q I rx ry h
  obtain ⟨i, j, rfl, rfl, q⟩ := h
  obtain ⟨t, rfl⟩ := rx
  obtain ⟨t', rfl⟩ := ry
  exact rule i j t t' s _ _ ⟨.int (g i j), H, I.tok _, ⟨_, rfl⟩, q⟩
theorem opB0 {f : Value → Value → Sem Value} {g : Int → Int → Bool}
    (rule : ∀ (i j : Int) (t u : Tok) (s : Shared) (Q : Value → Shared → Prop) (E : Value → Shared → Prop), Q (.bool (g i j)) s → wpAny (model X.prog X.w) X.A (f (.int i t) (.int j u)) Q E s) :
    OpR X f (rI0 fun i j => .bl (g i j)) := by
  intro pins s σ H x y v u Q I rx ry h
  obtain ⟨i, j, rfl, rfl, q⟩ := h
  obtain ⟨t, rfl⟩ := rx
  obtain ⟨t', rfl⟩ := ry
  exact rule i j t t' s _ _ ⟨.bl (g i j), H, I, rfl, q⟩

theorem op_add : OpR X (binaryOp .Add) (rI0 fun i j => .int (i + j)) := opI0 fun _ _ _ _ _ _ _ q => add_int q
theorem op_sub : OpR X (binaryOp .Sub) (rI0 fun i j => .int (i - j)) := opI0 fun _ _ _ _ _ _ _ q => sub_int q
theorem unI {f : Value → Sem Value} {g : Int → Int}
    (rule : ∀ (i : Int) (t : Tok) (s : Shared) (Q : Value → Shared → Prop) (E : Value → Shared → Prop), Q (.int (g i) s.toks) { s with toks := s.toks + 1 } → wpAny (model X.prog X.w) X.A (f (.int i t)) Q E s) :
    UnR X f (rU fun i => .int (g i)) := by
  intro pins s σ H x v Q I rx h
  obtain ⟨i, rfl, q⟩ := h
  obtain ⟨t, rfl⟩ := rx
  exact rule i t s _ _ ⟨.int (g i), H, I.tok _, ⟨_, rfl⟩, q⟩
theorem un_neg : UnR X (unaryOp .USub) (rU fun i => .int (-i)) := unI fun _ _ _ _ _ q => neg_int q
/-! ### bools among ints: n += (a < b) -/
end

/-! ### comparisons -/
/-- the scalars that == tells apart as data does -/
def scal : V → V → Bool
  | .non, .non => true | .non, .int _ => true | .int _, .non => true | .non, .bl _ => true | .bl _, .non => true | .non, .str _ => true | .str _, .non => true
  | .int _, .int _ => true | .bl _, .bl _ => true | .str _, .str _ => true | .byt _, .byt _ => true
  | .int _, .str _ => true | .str _, .int _ => true | .bl _, .str _ => true | .str _, .bl _ => true
  | _, _ => false
def rEq : R2 := fun x y H Q => scal x y = true ∧ Q (.bl (decide (x = y))) H
def rNe : R2 := fun x y H Q => scal x y = true ∧ Q (.bl (!decide (x = y))) H

theorem dec_int {i j : Int} : decide (V.int i = V.int j) = (i == j) := by
  rw [Bool.eq_iff_iff]
  simp
theorem dec_bl {i j : Bool} : decide (V.bl i = V.bl j) = (i == j) := by
  rw [Bool.eq_iff_iff]
  simp
theorem dec_str {i j : Str} : decide (V.str i = V.str j) = (i == j) := by
  rw [Bool.eq_iff_iff]
  simp
theorem dec_byt {i j : Array UInt8} : decide (V.byt i = V.byt j) = (i.toList == j.toList) := by
  rw [Bool.eq_iff_iff]
  cases i
  cases j
  simp

section
variable {X : Cx} {a b c : Expr} {ta tb tc : TE} {pos : Pos}
theorem fin_bl {pins : List (Addr × Obj)} {σ : St} {H : Hp} {s : Shared} {Q : VK} {k k' : Bool} (I : Inv X pins σ H s) (q : Q (.bl k) H) (e : k = k') : EP X pins σ Q (.bool k') s := by
  subst e
  exact ⟨.bl k, H, I, rfl, q⟩
theorem op_eq : OpR X (compareOp .Eq) rEq := by
  intro pins s σ H x y v u Q I rx ry h
  obtain ⟨hs, q⟩ := h
  cases x with
  | non =>
    cases rx
    cases y with
    | non => cases ry; exact PySem.EqNone.eq_none_none (fin_bl I q (by simp))
    | bl j => cases ry; exact PySem.EqNone.eq_none_bool (fin_bl I q (by simp))
    | int j => obtain ⟨t', rfl⟩ := ry; exact PySem.EqNone.eq_none_int (fin_bl I q (by simp))
    | str j => obtain ⟨t', rfl⟩ := ry; exact PySem.EqNone.eq_none_str (fin_bl I q (by simp))
    | _ => exact absurd (show false = true from hs) Bool.false_ne_true
  | bl i =>
    cases rx
    cases y with
    | non => cases ry; exact PySem.EqNone.eq_bool_none (fin_bl I q (by simp))
    | bl j => cases ry; exact eq_bool (fin_bl I q dec_bl)
    | str j => obtain ⟨t', rfl⟩ := ry; exact PySem.EqMixed.eq_bool_str (fin_bl I q (by simp))
    | _ => exact absurd (show false = true from hs) Bool.false_ne_true
  | int i =>
    obtain ⟨t, rfl⟩ := rx
    cases y with
    | non => cases ry; exact PySem.EqNone.eq_int_none (fin_bl I q (by simp))
    | int j => obtain ⟨t', rfl⟩ := ry; exact eq_int (fin_bl I q dec_int)
    | str j => obtain ⟨t', rfl⟩ := ry; exact PySem.EqMixed.eq_int_str (fin_bl I q (by simp))
    | _ => exact absurd (show false = true from hs) Bool.false_ne_true
  | str i =>
    obtain ⟨t, rfl⟩ := rx
    cases y with
    | non => cases ry; exact PySem.EqNone.eq_str_none (fin_bl I q (by simp))
    | bl j => cases ry; exact PySem.EqMixed.eq_str_bool (fin_bl I q (by simp))
    | int j => obtain ⟨t', rfl⟩ := ry; exact PySem.EqMixed.eq_str_int (fin_bl I q (by simp))
    | str j => obtain ⟨t', rfl⟩ := ry; exact eq_str (fin_bl I q dec_str)
    | _ => exact absurd (show false = true from hs) Bool.false_ne_true
  | byt i =>
    obtain ⟨t, rfl⟩ := rx
    cases y with
    | byt j => obtain ⟨t', rfl⟩ := ry; exact PySem.W.eq_bytes (fin_bl I q dec_byt)
    | _ => exact absurd (show false = true from hs) Bool.false_ne_true
  | _ => cases y <;> exact absurd (show false = true from hs) Bool.false_ne_true
theorem op_ne : OpR X (compareOp .NotEq) rNe := by
  intro pins s σ H x y v u Q I rx ry h
  obtain ⟨hs, q⟩ := h
  cases x with
  | non =>
    cases rx
    cases y with
    | non => cases ry; exact PySem.EqNone.ne_none_none (fin_bl I q (by simp))
    | bl j => cases ry; exact PySem.EqNone.ne_none_bool (fin_bl I q (by simp))
    | int j => obtain ⟨t', rfl⟩ := ry; exact PySem.EqNone.ne_none_int (fin_bl I q (by simp))
    | str j => obtain ⟨t', rfl⟩ := ry; exact PySem.EqNone.ne_none_str (fin_bl I q (by simp))
    | _ => exact absurd (show false = true from hs) Bool.false_ne_true
  | bl i =>
    cases rx
    cases y with
    | non => cases ry; exact PySem.EqNone.ne_bool_none (fin_bl I q (by simp))
    | bl j => cases ry; exact ne_bool (fin_bl I q (congrArg not dec_bl))
    | str j => obtain ⟨t', rfl⟩ := ry; exact PySem.EqMixed.ne_bool_str (fin_bl I q (by simp))
    | _ => exact absurd (show false = true from hs) Bool.false_ne_true
  | int i =>
    obtain ⟨t, rfl⟩ := rx
    cases y with
    | non => cases ry; exact PySem.EqNone.ne_int_none (fin_bl I q (by simp))
    | int j => obtain ⟨t', rfl⟩ := ry; exact ne_int (fin_bl I q (congrArg not dec_int))
    | str j => obtain ⟨t', rfl⟩ := ry; exact PySem.EqMixed.ne_int_str (fin_bl I q (by simp))
    | _ => exact absurd (show false = true from hs) Bool.false_ne_true
  | str i =>
    obtain ⟨t, rfl⟩ := rx
    cases y with
    | non => cases ry; exact PySem.EqNone.ne_str_none (fin_bl I q (by simp))
    | bl j => cases ry; exact PySem.EqMixed.ne_str_bool (fin_bl I q (by simp))
    | int j => obtain ⟨t', rfl⟩ := ry; exact PySem.EqMixed.ne_str_int (fin_bl I q (by simp))
    | str j => obtain ⟨t', rfl⟩ := ry; exact ne_str (fin_bl I q (congrArg not dec_str))
    | _ => exact absurd (show false = true from hs) Bool.false_ne_true
  | byt i =>
    obtain ⟨t, rfl⟩ := rx
    cases y with
    | byt j => obtain ⟨t', rfl⟩ := ry; exact PySem.W.ne_bytes (fin_bl I q (congrArg not dec_byt))
    | _ => exact absurd (show false = true from hs) Bool.false_ne_true
  | _ => cases y <;> exact absurd (show false = true from hs) Bool.false_ne_true

theorem op_lt : OpR X (compareOp .Lt) (rI0 fun i j => .bl (decide (i < j))) := opB0 fun _ _ _ _ _ _ _ q => lt_int q
theorem op_le : OpR X (compareOp .LtE) (rI0 fun i j => .bl (decide (i ≤ j))) := opB0 fun _ _ _ _ _ _ _ q => le_int q
theorem op_gt : OpR X (compareOp .Gt) (rI0 fun i j => .bl (decide (j < i))) := opB0 fun _ _ _ _ _ _ _ q => gt_int q
theorem op_ge : OpR X (compareOp .GtE) (rI0 fun i j => .bl (decide (j ≤ i))) := opB0 fun _ _ _ _ _ _ _ q => ge_int q
/-- is None, is not None: the right side a value none -/
theorem op_isN : OpR X (compareOp .Is) (fun x y H Q => y = .non ∧ Q (.bl (decide (x = .non))) H) := by
  intro pins s σ H x y v u Q I rx ry h
  obtain ⟨rfl, q⟩ := h
  cases ry
  refine is_none_gen (fin_bl I q ?_)
  cases x <;> first
    | (cases rx; rfl)
    | (obtain ⟨t, rfl⟩ := rx; rfl)
theorem nomark (b : Expr) {op : CmpOp} (h : op ≠ .In := by decide) (h2 : op ≠ .NotIn := by decide) : behindInMarks op b = false := by
  have e1 : (op == CmpOp.In) = false := by cases op <;> first | rfl | exact absurd rfl h
  have e2 : (op == CmpOp.NotIn) = false := by cases op <;> first | rfl | exact absurd rfl h2
  cases b <;> simp [behindInMarks, e1, e2]
/-- a reading of a value as a test -/
def tTest (t : TE) : TT := fun σ H Q => t σ H fun x H' => ∃ k, x = .bl k ∧ Q k H'
theorem pt_cmpR {op : CmpOp} {r : R2} (ho : OpR X (compareOp op) r) (ha : PE X a ta) (hb : PE X b tb) (hm : behindInMarks op b = false) : PT X (.Compare a [op] [b] pos) (tTest (tOp r ta tb)) := by
  intro pins s σ H Q I h
  refine wpAny_isTrue_Compare1 (thn (ha pins s σ H _ I h) fun v s1 ⟨x, H1, I1, r1, q1⟩ => thn (hb pins s1 σ H1 _ I1 q1) fun u s2 ⟨y, H2, I2, r2, q2⟩ =>
    thn (ho pins s2 σ H2 x y v u _ I2 r1 r2 q2) fun c s3 ⟨z, H3, I3, r3, k, e, q3⟩ => ?_) hm
  subst e
  cases r3
  exact wpAny_truthy_bool ⟨H3, I3, q3⟩
/-- a op1 b op2 c -/
def tChain (r r' : R2) (ta tb tc : TE) : TE := fun σ H Q => ta σ H fun x H1 => tb σ H1 fun y H2 => r x y H2 fun z H3 => ∃ k, z = .bl k ∧
  (if k = true then tc σ H3 fun w' H4 => r' y w' H4 Q else Q (.bl false) H3)
theorem pe_chain {op op' : CmpOp} {r r' : R2} (ho : OpR X (compareOp op) r) (ho' : OpR X (compareOp op') r') (ha : PE X a ta) (hb : PE X b tb) (hc : PE X c tc)
    (hm : lastMarks [op, op'] [b, c] = false := by with_unfolding_all rfl) : PE X (.Compare a [op, op'] [b, c] pos) (tChain r r' ta tb tc) := by
  intro pins s σ H Q I h
  refine Compare_chain (thn (ha pins s σ H _ I h) fun v s1 ⟨x, H1, I1, r1, q1⟩ => chain_link (thn (hb pins s1 σ H1 _ I1 q1) fun u s2 ⟨y, H2, I2, r2, q2⟩ =>
    thn (ho pins s2 σ H2 x y v u _ I2 r1 r2 q2) fun d s3 ⟨z, H3, I3, r3, k, e, q3⟩ => ?_)) hm
  subst e
  cases r3
  refine wpAny_truthy_bool ?_
  cases k with
  | false => exact ite_ff ⟨.bl false, H3, I3, rfl, q3⟩
  | true => exact ite_tt (chain_last (thn (hc pins s3 σ H3 _ I3 q3) fun w' s4 ⟨z', H4, I4, r4, q4⟩ => ho' pins s4 σ H4 y z' u w' Q I4 r2 r4 q4))
/-! ### truth -/
theorem line63 : (sizeLine : Nat) < 2 ^ 63 := by rw [sizeLine_eq]; decide
/-! ### strs and bytes -/
/-! ### scalar builtins, by CallR -/
theorem vals1 {x : V} {us : List Value} (r : Vals [x] us) : ∃ u, us = [u] ∧ RelV x u := by
  cases r with
  | cons r1 r2 => cases r2; exact ⟨_, rfl, r1⟩
end
end L2

namespace L2
open PySem PySem.Spec PyProof.Rows

/-! ### an instance, its attributes a map -/
structure ObjM (h : Heap) (x dx C : Addr) (mA : Str → Option Value) : Prop where
  obj : h.get? x = some (PySem.W.instObj C dx)
  ns : h.Ns1 dx mA
  ne : dx ≠ x

theorem lookIn_ns {h : Heap} {dx : Addr} {mA : Str → Option Value} (n : h.Ns1 dx mA) : ∃ od, h.get? dx = some od ∧ ∀ name, PySem.W.lookIn name od = some (mA name) := by
  obtain ⟨o, es, ep, ho, hd, hk, _, hm⟩ := n
  refine ⟨o, ho, fun name => ?_⟩
  have e := hm name
  unfold nsFind findBy at e
  rw [← Array.find?_toList] at e
  unfold PySem.W.lookIn
  rw [hd]
  dsimp only
  split
  · rename_i y q
    rw [q] at e
    exact congrArg some e
  · rename_i q
    rw [q] at e
    have a : es.toList.any (·.refKey) = false := by
      rw [List.any_eq_false]
      intro y hy
      obtain ⟨z, t, hkey⟩ := hk y (Array.mem_toList_iff.mp hy)
      simp [DictEntry.refKey, hkey]
    have a' : ¬ es.toList.any (·.refKey) = true := by rw [a]; exact Bool.false_ne_true
    rw [if_neg a']
    exact congrArg some e

theorem ObjM.look {h : Heap} {x dx C : Addr} {mA : Str → Option Value} (I : ObjM h x dx C mA) : ∃ od, PySem.W.InstAt h x (PySem.W.instObj C dx) C (some od) ∧ ∀ name, PySem.W.lookIn name od = some (mA name) :=
  let ⟨od, ho, hl⟩ := lookIn_ns I.ns
  ⟨od, ⟨I.obj, rfl, rfl, ho⟩, hl⟩

section
variable {prog : Program} {w : World} {A : Around} {E : Value → Shared → Prop} {s : Shared} {K : PySem.W.Frag} {x dx C f : Addr} {mA : Str → Option Value} {name : Str} {v : Value}

theorem get_map {expr : Bool} {Q : Value → Shared → Prop} (X : K.In s.heap) (I : ObjM s.heap x dx C mA) (hg : PySem.W.plainGet K C name = true) (hh : PySem.W.hasDictIn K C = true)
    (ha : PySem.W.findIn K (.ref C) name = some none) (hv : mA name = some v) (hv' : PySem.W.handedIn v = true) (h : Q v { s with toks := s.toks + 1 }) :
    wpAny (model prog w) A (getAttr (.ref x) name expr) Q E s := by
  obtain ⟨od, J, hl⟩ := I.look
  exact PySem.W.get_value X J (PySem.W.plainGet_of hg).1 (PySem.W.findObj_own hh ha rfl (by rw [hl, hv])) hv' h

theorem get_meth {pl : Sem Bool} {Q : Value × List Value → Shared → Prop} (X : K.In s.heap) (I : ObjM s.heap x dx C mA) (hg : PySem.W.plainGet K C name = true)
    (hf : PySem.W.findIn K (.ref C) name = some (some (.ref f))) (ht : PySem.W.isFn K (.ref f) = true) (hv : mA name = none) (h : Q (.ref f, [.ref x]) s) :
    wpAny (model prog w) A (getMethod (.ref x) name pl) Q E s := by
  obtain ⟨od, J, hl⟩ := I.look
  exact PySem.W.method_fn X J (PySem.W.plainGet_of hg).1 (PySem.W.plainGet_of hg).2 hf (beq_iff_eq.mp ht) (by show (PySem.W.lookIn name od).map (·.isSome) = some false; rw [hl, hv]; rfl) h

theorem set_map {ns : List Str} {Q : Unit → Shared → Prop} (X : K.In s.heap) (I : ObjM s.heap x dx C mA)
    (hs : PySem.W.findIn K (.ref C) "__setattr__" = some (some (.builtin "object.__setattr__"))) (hp : PySem.W.plainOver K C = true) (ht : PySem.W.takerIn K C name = some none) (hh : PySem.W.hasDictIn K C = true)
    (hw : PySem.Within mA ns) (hsz : ns.length ≤ sizeLine)
    (h : ∀ h', ObjM h' x dx C (fun y => if y = name then some v else mA y) → Heap.SameBut dx s.heap h' → Q () { s with heap := h', toks := s.toks + 2 }) :
    wpAny (model prog w) A (setAttr (.ref x) name v) Q E s := by
  obtain ⟨od, J, hl⟩ := I.look
  refine PySem.W.set_plain X J hs (PySem.W.osa_open (s := { s with toks := s.toks + 1 }) (r := none) X J hp ht fun b => ?_)
  obtain ⟨cd, hc, hd'⟩ := PySem.W.any_some hh
  have hx : s.heap.get? x = some ⟨.ref C, some dx, .plain, #[]⟩ := I.obj
  refine wpAny_bind (wpAny_pure (wpAny_bind (wpAny_bind (wpAny_loadPart hx (wpAny_bind (PySem.W.Looks.here (s := { s with toks := s.toks + 1 }) (PySem.W.looks_clsIn X hc) ?_))))))
  rw [hd']
  refine wpAny_pure (a := some dx) (wpAny_bind (wpAny_pure (wpAny_bind ?_)))
  refine wpAny_nsSet1 (s := { s with toks := s.toks + 1 }) I.ns fun h' hn2 hs2 => ?_
  obtain ⟨oD, esD, epD, hoD, hdD, hcD⟩ := hn2.count (PySem.Within.cons name v hw)
  refine wpAny_bind (wpAny_lookBehind hoD (by rw [hdD]; exact pastItsLine_dict (Nat.le_trans hcD (by rw [List.length_cons]; omega))) ?_)
  exact wpAny_pure (h _ ⟨(hs2.2 _ (Ne.symm I.ne)).trans I.obj, hn2, I.ne⟩ hs2)

/-- C(..): the dict at the heap's end, the instance behind it; then its __init__ -/
theorem make_map {R : Result → Shared → Prop} {vs : List Value} {kw : List (Str × Value)} (X : K.In s.heap) (hm : PySem.W.makesIn K C = true)
    (hi : PySem.W.findIn K (.ref C) "__init__" = some (some (.ref f))) (hf : PySem.W.typeIn K (.ref f) = some (.type "function"))
    (h : codeAny (model prog w) (A.under (.builtin "type.__call__" ⟨.ref C :: vs, kw⟩)) (.call (.ref f) ⟨.ref (s.heap.objs.size + 1) :: vs, kw⟩) (PySem.W.InitBack (s.heap.objs.size + 1) R)
      { s with heap := (s.heap.push PySem.W.emptyDict).push (PySem.W.instObj C s.heap.objs.size) }) :
    codeAny (model prog w) A (.call (.ref C) ⟨vs, kw⟩) R s := by
  obtain ⟨hh, g, d, t, os⟩ := s
  exact PySem.W.make_core (PySem.W.makes_of X hm) (PySem.W.looks_findIn X hi) (fun self => PySem.W.bind_fn X self hf) (.inl rfl) h
end

/-! ### the attributes as a list of pairs -/
def putF (f : Str) (v : V) : List (Str × V) → List (Str × V)
  | [] => [(f, v)]
  | (g, x) :: r => if g = f then (g, v) :: r else (g, x) :: putF f v r
theorem lookup_putF (f g : Str) (v : V) : ∀ fs : List (Str × V), (putF f v fs).lookup g = if g = f then some v else fs.lookup g
  | [] => by
    show List.lookup g [(f, v)] = _
    by_cases h : g = f
    · have hb : (g == f) = true := beq_iff_eq.mpr h
      simp only [List.lookup, hb, if_pos h]
    · have hb : (g == f) = false := beq_eq_false_iff_ne.mpr h
      simp only [List.lookup, hb, if_neg h]
  | (k, x) :: r => by
    have ih := lookup_putF f g v r
    rw [show putF f v ((k, x) :: r) = (if k = f then (k, v) :: r else (k, x) :: putF f v r) from rfl]
    by_cases hk : k = f
    · rw [if_pos hk]
      by_cases h : g = k
      · have hb : (g == k) = true := beq_iff_eq.mpr h
        simp only [List.lookup, hb, if_pos (h.trans hk)]
      · have hb : (g == k) = false := beq_eq_false_iff_ne.mpr h
        simp only [List.lookup, hb, if_neg (fun e : g = f => h (e.trans hk.symm))]
    · rw [if_neg hk]
      by_cases h : g = k
      · have hb : (g == k) = true := beq_iff_eq.mpr h
        simp only [List.lookup, hb, if_neg (fun e : g = f => hk (h.symm.trans e))]
      · have hb : (g == k) = false := beq_eq_false_iff_ne.mpr h
        simp only [List.lookup, hb]
        exact ih
theorem keys_putF (f : Str) (v : V) : ∀ fs : List (Str × V), f ∈ (putF f v fs).map (·.1) ∧ ∀ g, g ∈ fs.map (·.1) → g ∈ (putF f v fs).map (·.1)
  | [] => ⟨by simp [putF], fun g h => by simp at h⟩
  | (k, x) :: r => by
    obtain ⟨i1, i2⟩ := keys_putF f v r
    rw [show putF f v ((k, x) :: r) = (if k = f then (k, v) :: r else (k, x) :: putF f v r) from rfl]
    by_cases hk : k = f
    · rw [if_pos hk]
      subst hk
      exact ⟨by simp, fun g h => by simpa using h⟩
    · rw [if_neg hk]
      refine ⟨?_, fun g h => ?_⟩
      · rw [List.map_cons]
        exact List.mem_cons_of_mem _ i1
      · rw [List.map_cons] at h ⊢
        rcases List.mem_cons.mp h with e | e
        · exact List.mem_cons.mpr (.inl e)
        · exact List.mem_cons_of_mem _ (i2 g e)
theorem length_putF (f : Str) (v : V) : ∀ fs : List (Str × V), (putF f v fs).length ≤ fs.length + 1
  | [] => by simp [putF]
  | (k, x) :: r => by
    have ih := length_putF f v r
    rw [show putF f v ((k, x) :: r) = (if k = f then (k, v) :: r else (k, x) :: putF f v r) from rfl]
    by_cases hk : k = f
    · rw [if_pos hk, List.length_cons, List.length_cons]; omega
    · rw [if_neg hk, List.length_cons, List.length_cons]; omega

theorem RelO.some_of {v : V} {o : Option Value} (r : RelO (some v) o) : ∃ u, o = some u ∧ RelV v u := by
  cases o with
  | none => exact (show False from r).elim
  | some u => exact ⟨u, rfl, r⟩
theorem RelO.none_of {o : Option Value} (r : RelO none o) : o = none := by
  cases o with
  | none => rfl
  | some u => exact (show False from r).elim
theorem handed_of {v : V} {u : Value} (r : RelV v u) : PySem.W.handedIn u = true := by
  cases v with
  | non => cases (show u = Value.none from r); rfl
  | bl b => cases (show u = Value.bool b from r); rfl
  | int i => obtain ⟨t, e⟩ := (show ∃ t, u = Value.int i t from r); cases e; rfl
  | str x => obtain ⟨t, e⟩ := (show ∃ t, u = Value.str x t from r); cases e; rfl
  | byt b => obtain ⟨t, e⟩ := (show ∃ t, u = Value.bytes b t from r); cases e; rfl
  | flt b => obtain ⟨t, e⟩ := (show ∃ t, u = Value.float b t from r); cases e; rfl
  | ref a => cases (show u = Value.ref a from r); rfl
  | ty n => cases (show u = Value.type n from r); rfl

section
variable {P : Program} {w : World} {H H' : Hp} {h h' : Heap} {a C dx : Addr} {fs fs' : List (Str × V)}
theorem ins_get (hok : HOk P w H h) (e : H a = some (.ins C dx fs)) : ∃ mA, ObjM h a dx C mA ∧ (∀ f, RelO (fs.lookup f) (mA f)) ∧ PySem.Within mA (fs.map (·.1)) ∧ fs.length ≤ 1000 ∧ H dx = some (.own a) := by
  obtain ⟨d, z, ne, ob, mA, n, r, q⟩ := (show ObjOk P w H h a (.ins C dx fs) from hok a _ e)
  exact ⟨mA, ⟨ob, n, ne⟩, r, q, z, d⟩
end

/-! ### what of the text a class must have -/
structure Cls (K : PySem.W.Frag) (C : Addr) : Prop where
  pg : PySem.W.plainGet K C Str.empty = true
  hd : PySem.W.hasDictIn K C = true
  po : PySem.W.plainOver K C = true
  sa : PySem.W.findIn K (.ref C) "__setattr__" = some (some (.builtin "object.__setattr__"))
theorem Cls.get {K : PySem.W.Frag} {C : Addr} (c : Cls K C) (f : Str) : PySem.W.plainGet K C f = true := c.pg
/-- no class of it has the name -/
def NoAttr (K : PySem.W.Frag) (C : Addr) (f : Str) : Prop := PySem.W.findIn K (.ref C) f = some none
theorem NoAttr.taker {K : PySem.W.Frag} {C : Addr} {f : Str} (n : NoAttr K C f) : PySem.W.takerIn K C f = some none := by
  unfold PySem.W.takerIn
  rw [show PySem.W.findIn K (.ref C) f = some none from n]
  rfl
/-- a constant of the class -/
structure Con (K : PySem.W.Frag) (C : Addr) (f : Str) (v : V) (u : Value) : Prop where
  at_ : PySem.W.findIn K (.ref C) f = some (some u)
  rel : RelV v u
  get : PySem.W.specialIn K u "__get__" = some none
  cp : PySem.W.copiedNames.contains f = false
/-- a method: a plain def of the class or of one above it -/
structure Meth (K : PySem.W.Frag) (C : Addr) (m : Str) (f : Addr) : Prop where
  at_ : PySem.W.findIn K (.ref C) m = some (some (.ref f))
  fn : PySem.W.isFn K (.ref f) = true
  kp : PySem.W.keepIn K (.ref f) = true

section
variable {X : Cx} {pins : List (Addr × Obj)} {σ : St} {H : Hp} {s : Shared} {a C dx : Addr} {fs : List (Str × V)} {f : Str} {v : V} {A : Around} {E : Value → Shared → Prop}

theorem getattr_ok {b : Bool} {Q : Value → Shared → Prop} (I : Inv X pins σ H s) (e : H a = some (.ins C dx fs)) (c : Cls X.K C) (n : NoAttr X.K C f) (l : fs.lookup f = some v)
    (h : ∀ u s', Inv X pins σ H s' → RelV v u → Q u s') : wpAny (model X.prog X.w) A (getAttr (.ref a) f b) Q E s := by
  obtain ⟨mA, O, r, _, _, _⟩ := ins_get I.hok e
  obtain ⟨u, hu, ru⟩ := RelO.some_of (v := v) (o := mA f) (by rw [← l]; exact r f)
  exact get_map I.kIn O (c.get f) c.hd n hu (handed_of ru) (h u _ (I.tok _) ru)

theorem getmeth_ok {m : Str} {g : Addr} {pl : Sem Bool} {Q : Value × List Value → Shared → Prop} (I : Inv X pins σ H s) (e : H a = some (.ins C dx fs)) (c : Cls X.K C) (k : Meth X.K C m g) (l : fs.lookup m = none)
    (h : Q (.ref g, [.ref a]) s) : wpAny (model X.prog X.w) A (getMethod (.ref a) m pl) Q E s := by
  obtain ⟨mA, O, r, _, _, _⟩ := ins_get I.hok e
  have hn : mA m = none := RelO.none_of (by rw [← l]; exact r m)
  exact get_meth I.kIn O (c.get m) k.at_ k.fn hn h

theorem setattr_ok {y : V} {u : Value} {Q : Unit → Shared → Prop} (I : Inv X pins σ H s) (e : H a = some (.ins C dx fs)) (c : Cls X.K C) (n : NoAttr X.K C f) (hl : fs.length < 1000) (ry : RelV y u)
    (h : ∀ s', Inv X pins σ (upd H a (.ins C dx (putF f y fs))) s' → Q () s') : wpAny (model X.prog X.w) A (setAttr (.ref a) f u) Q E s := by
  obtain ⟨mA, O, r, wi, _, ho⟩ := ins_get I.hok e
  have hz : (fs.map (·.1)).length ≤ sizeLine := by rw [List.length_map, sizeLine_eq]; omega
  refine set_map I.kIn O c.sa c.po n.taker c.hd wi hz fun h' O' sb => h _ ?_
  have hd : ∃ o, h'.get? dx = some o := let ⟨o, _, _, e', _⟩ := O'.ns; ⟨o, e'⟩
  refine I.write (x := a) (e := dx) (by rw [e]; exact True.intro) (.inr ho) (fun b q hb z => (sb.2 b hb).trans z) hd ?_
  refine ⟨by rw [upd_ne O.ne]; exact ho, ?_, O.ne, O'.obj, _, O'.ns, fun g => ?_, fun g hg => ?_⟩
  · have := length_putF f y fs; omega
  · show RelO ((putF f y fs).lookup g) (if g = f then some u else mA g)
    rw [lookup_putF]
    by_cases q : g = f
    · rw [if_pos q, if_pos q]; exact ry
    · rw [if_neg q, if_neg q]; exact r g
  · by_cases q : g = f
    · rw [q]; exact (keys_putF f y fs).1
    · refine (keys_putF f y fs).2 g (wi g fun z => hg ?_)
      show (if g = f then some u else mA g) = none
      rw [if_neg q]; exact z

/-- a new instance, tracked, without attributes -/
theorem Inv.made (I : Inv X pins σ H s) : Inv X pins σ (upd (upd H s.heap.objs.size (.own (s.heap.objs.size + 1))) (s.heap.objs.size + 1) (.ins C s.heap.objs.size []))
    { s with heap := (s.heap.push PySem.W.emptyDict).push (PySem.W.instObj C s.heap.objs.size) } := by
  have e1 : (s.heap.push PySem.W.emptyDict).get? s.heap.objs.size = some PySem.W.emptyDict := Heap.get?_push_size s.heap rfl
  have e2 : ((s.heap.push PySem.W.emptyDict).push (PySem.W.instObj C s.heap.objs.size)).get? (s.heap.objs.size + 1) = some (PySem.W.instObj C s.heap.objs.size) := by
    have := Heap.get?_push_size (s.heap.push PySem.W.emptyDict) (o := PySem.W.instObj C s.heap.objs.size) rfl
    rwa [Heap.size_push] at this
  have e3 : (s.heap.push PySem.W.emptyDict).Ns s.heap.objs.size (fun _ => none) := ⟨PySem.W.emptyDict, #[], _, e1, rfl, (fun e he => absurd he (by simp)), fun _ => rfl⟩
  have I1 := I.laid (a := s.heap.objs.size) (o := .own (s.heap.objs.size + 1)) (h' := s.heap.push PySem.W.emptyDict) (t' := s.toks) (fun b u q => Heap.get?_push_of_some _ q) (Nat.le_refl _) ⟨_, e1⟩
  refine I1.laid (a := s.heap.objs.size + 1) (o := .ins C s.heap.objs.size []) (t' := s.toks) (fun b u q => Heap.get?_push_of_some _ q) (Nat.le_of_eq (Heap.size_push _ _)) ?_
  have ne : s.heap.objs.size ≠ s.heap.objs.size + 1 := Nat.ne_of_lt (Nat.lt_succ_self _)
  refine ⟨by rw [upd_ne ne, upd_same], Nat.zero_le _, ne, e2, fun _ => none, (Heap.Ns1.of_empty e3).at fun o q => Heap.get?_push_of_some _ q, fun _ => True.intro, fun y hy => absurd rfl hy⟩

/-- e.f where nothing but the object is asked: through attributeBase (super) and the last hold -/
theorem attr_of {prog : Program} {w : World} {env : Env} {e : Expr} {f : Str} {pos : Pos} {s : Shared} {Q : Value → Shared → Prop} (hb : attributeBase e f env (eval e env) = eval e env)
    (h : wpAny (model prog w) A (eval e env) (fun o s₁ => wpAny (model prog w) A (getAttr o f true) Q E s₁) E s) : wpAny (model prog w) A (eval (.Attribute e f pos) env) Q E s :=
  Attribute_any_ h (by rw [arm_eval_Attribute, hb])
end

/-! ### readings and rules -/
/-- e.f, an attribute of the instance -/
def tFld (K : PySem.W.Frag) (ta : TE) (f : Str) : TE := fun σ H Q => ta σ H fun x H1 => ∃ a C dx fs v, x = .ref a ∧ H1 a = some (.ins C dx fs) ∧ Cls K C ∧ NoAttr K C f ∧ fs.lookup f = some v ∧ Q v H1
/-- e.f = value -/
def sFld (K : PySem.W.Frag) (ta tv : TE) (f : Str) : TS := fun D σ H => tv σ H fun y H1 => ta σ H1 fun x H2 => ∃ a C dx fs, x = .ref a ∧ H2 a = some (.ins C dx fs) ∧ Cls K C ∧ NoAttr K C f ∧ fs.length < 1000 ∧
  D.nx σ (upd H2 a (.ins C dx (putF f y fs)))
section
variable {X : Cx} {o e value : Expr} {f : Str} {pos pos' tpos : Pos} {ta tv : TE}
theorem pe_fld (he : PE X e ta) (hb : attributeBase e f X.env (eval e X.env) = eval e X.env) : PE X (.Attribute e f pos) (tFld X.K ta f) := by
  intro pins s σ H Q I h
  refine attr_of hb (thn (he pins s σ H _ I h) fun u s1 ⟨x, H1, I1, rx, a, C, dx, fs, v, ex, ea, c, n, l, q⟩ => ?_)
  subst ex
  obtain rfl : u = Value.ref a := rx
  exact getattr_ok I1 ea c n l fun u' s2 I2 ru => ⟨v, H1, I2, ru, q⟩
theorem ps_fld (ha : PE X o ta) (hv : PE X value tv) (hs : swapsWith value (some (.Attribute o f pos')) pos.line X.env = pure false) : PS X (.Assign [.Attribute o f pos'] value pos) (sFld X.K ta tv f) := by
  intro pins s σ H D I h
  refine plainObj_wpAny_Assign_Attribute (thn (hv pins s σ H _ I h) fun u s1 ⟨y, H1, I1, ry, q⟩ => thn (ha pins s1 σ H1 _ I1 q) fun ov s2 ⟨x, H2, I2, rx, a, C, dx, fs, ex, ea, c, n, l, q2⟩ => ?_) hs
  subst ex
  obtain rfl : ov = Value.ref a := rx
  exact setattr_ok I2 ea c n l ry fun s3 I3 => ⟨σ, _, I3, q2⟩
end

/-! ### isinstance -/
section
variable {X : Cx} {pins : List (Addr × Obj)} {σ : St} {H : Hp} {s : Shared} {A : Around} {E : Value → Shared → Prop} {Q : Value → Shared → Prop} {c : Value} {b : Bool}
/-- the type of a value, as the fragment's deciders take it; for an instance its class -/
inductive TyOf (K : PySem.W.Frag) (H : Hp) : V → Value → Prop where
  | non : TyOf K H .non (.type "NoneType")
  | bl (x : Bool) : TyOf K H (.bl x) (.type "bool")
  | int (i : Int) : TyOf K H (.int i) (.type "int")
  | str (x : Str) : TyOf K H (.str x) (.type "str")
  | flt (x : UInt64) : TyOf K H (.flt x) (.type "float")
  | lst {a : Addr} {xs : List V} (e : H a = some (.lst xs)) : TyOf K H (.ref a) (.type "list")
  | frz {a : Addr} {o : Obj} {xs : List V} (e : H a = some (.frz o (.lst xs))) : TyOf K H (.ref a) (.type "list")
  | tup {a : Addr} {xs : List V} (e : H a = some (.tup xs)) : TyOf K H (.ref a) (.type "tuple")
  | dK {a : Addr} {kvs : List (Key × V)} (e : H a = some (.dK kvs)) : TyOf K H (.ref a) (.type "dict")
  | dT {a : Addr} {kvs : List (List Key × V)} (e : H a = some (.dT kvs)) : TyOf K H (.ref a) (.type "dict")
  | ins {a C dx : Addr} {fs : List (Str × V)} (e : H a = some (.ins C dx fs)) (cl : Cls K C) (ha : PySem.W.findIn K (.ref C) "__class__" = some (some (.builtin "object.__class__")))
      (hn : PySem.W.specialIn K (.builtin "object.__class__") "__get__" = some (some (.builtin "getset_descriptor.__get__"))) (htk : PySem.W.takesIn K (.builtin "object.__class__") = some true)
      (hm : PySem.W.mroIn K C (.type "object") = some true) : TyOf K H (.ref a) (.ref C)
end
end L2

namespace L2
open PySem PySem.Spec PyProof.Rows

/-! ### room -/
structure Room (k : Nat) (A : Around) : Prop where
  hd : A.handled = none
  dp : A.depth + 3 * k + 5 < recursionLimit
  un : A.units + 16 * k + 200 < cLine
theorem Room.mono {j k : Nat} {A : Around} (r : Room k A) (h : j ≤ k) : Room j A := ⟨r.hd, by have := r.dp; omega, by have := r.un; omega⟩
theorem Room.deeper {k : Nat} {A : Around} (r : Room (k + 1) A) (env : Env) : Room k (A.deeper env) :=
  ⟨r.hd, by have := r.dp; show A.depth + 1 + 3 * k + 5 < _; omega, by have := r.un; show A.units + 3 + 16 * k + 200 < _; omega⟩
theorem Room.in1 {k : Nat} {A : Around} (r : Room (k + 1) A) : Room k A.in1 :=
  ⟨r.hd, by have := r.dp; show A.depth + 3 * k + 5 < _; omega, by have := r.un; show A.units + 1 + 16 * k + 200 < _; omega⟩
theorem make_depth {A : Around} {C : Addr} {us : List Value} {kw : List (Str × Value)} : (A.under (.builtin "type.__call__" ⟨.ref C :: us, kw⟩)).depth = A.depth + 1 := by
  first | rfl | simp [Around.under, Code.weight, Code.isCreation, Code.isGuard, Code.isCaller, Code.frames, Code.isFrame, guardIds]
theorem make_units {A : Around} {C : Addr} {us : List Value} {kw : List (Str × Value)} : (A.under (.builtin "type.__call__" ⟨.ref C :: us, kw⟩)).units = A.units + 1 := by
  first | rfl | simp [Around.under, Code.cUnits, Code.frames, Code.isFrame]
theorem Room.make {k : Nat} {A : Around} (r : Room (k + 1) A) (C : Addr) (us : List Value) (kw : List (Str × Value)) : Room k (A.under (.builtin "type.__call__" ⟨.ref C :: us, kw⟩)) :=
  ⟨r.hd, by have := r.dp; rw [make_depth]; omega, by have := r.un; rw [make_units]; omega⟩
theorem Room.depth {k : Nat} {A : Around} (r : Room k A) : A.depth < recursionLimit := by have := r.dp; omega
/-! ### argument lists and displays -/
def tNil : TA := fun _ H Q => Q [] H
def tCons (ta : TE) (tr : TA) : TA := fun σ H Q => ta σ H fun x H1 => tr σ H1 fun xs H2 => Q (x :: xs) H2
section
variable {X : Cx} {e : Expr} {es : List Expr} {te : TE} {t : TA} {pos : Pos}
theorem pa_nil : PA X [] tNil := fun _ _ _ _ H Q I h => Calls.spliced_nil ⟨[], H, I, .nil, h⟩
theorem pa_cons (ha : PE X e te) (hr : PA X es t) (hs : starEach (e :: es) X.env = (false, eval e X.env) :: starEach es X.env := by rfl) : PA X (e :: es) (tCons te t) := by
  intro pos pins s σ H Q I h
  rw [hs]
  show wpAny _ _ (spliced ((false, eval e X.env) :: backTo pos (starEach es X.env))) _ _ s
  refine Calls.spliced_cons (thn (ha pins s σ H _ I h) fun u s1 ⟨x, H1, I1, r1, q1⟩ => ?_)
  exact thn (hr pos pins s1 σ H1 _ I1 q1) fun us s2 ⟨xs, H2, I2, r2, q2⟩ => ⟨x :: xs, H2, I2, .cons r1 r2, q2⟩

/-- a tuple, a list of written items -/
def tTup (t : TA) : TE := fun σ H Q => t σ H fun xs H1 => xs.length ≤ sizeLine ∧ ∀ p, H1 p = none → Q (.ref p) (upd H1 p (.tup xs))
def tLst (t : TA) : TE := fun σ H Q => t σ H fun xs H1 => xs.length ≤ sizeLine ∧ ∀ p, H1 p = none → Q (.ref p) (upd H1 p (.lst xs))
theorem pe_tup {x1} (h : PA X es t) : PE X (.Tuple es x1 pos) (tTup t) := by
  intro pins s σ H Q I hq
  refine wpAny_Tuple_spliced (thn (h pos pins s σ H _ I hq) fun us s1 ⟨xs, H1, I1, r, z, q⟩ => ⟨by rw [← r.length]; exact z, ?_⟩)
  have hf : H1 s1.heap.objs.size = none := I1.hok.fresh (Nat.le_refl _)
  refine ⟨.ref s1.heap.objs.size, upd H1 s1.heap.objs.size (.tup xs), I1.laid (t' := s1.toks) (fun b u e => Heap.get?_push_of_some _ e) (Nat.le_refl _) ?_, rfl, q _ hf⟩
  exact ⟨z, us, r, ⟨_, Heap.get?_push_size _ rfl, rfl, _, rfl⟩⟩
theorem pe_lst (h : PA X es t) : PE X (.List es pos) (tLst t) := by
  intro pins s σ H Q I hq
  refine wpAny_List_spliced (thn (h pos pins s σ H _ I hq) fun us s1 ⟨xs, H1, I1, r, z, q⟩ => ⟨by rw [← r.length]; exact z, ?_⟩)
  have hf : H1 s1.heap.objs.size = none := I1.hok.fresh (Nat.le_refl _)
  refine ⟨.ref s1.heap.objs.size, upd H1 s1.heap.objs.size (.lst xs), I1.laid (t' := s1.toks) (fun b u e => Heap.get?_push_of_some _ e) (Nat.le_refl _) ?_, rfl, q _ hf⟩
  exact ⟨z, us, 0, r, Heap.get?_push_size _ rfl⟩
end

/-! ### what a def promises -/
/-- a def's promise: the bound arguments in the parameters' order, the heap, the wanted end, the wanted exception -/
abbrev Sp := List V → Hp → VK → XK → Prop
/-- how an exception lies behind a call (file 08 gives it): the callers' frames, abstract heap and state ahead of the call, the wish, the exception, the state -/
abbrev CXT := List Env → Hp → Shared → XK → Value → Shared → Prop

/-- the state at a call -/
structure Env0 (P : Program) (w : World) (K : PySem.W.Frag) (mg : Str → Option Value) (base : Heap) (A : Around) (outer : List Env) (s : Shared) (H : Hp) : Prop where
  frames : A.frames = some outer
  mod : Mod K mg base
  bs : ∀ b o, base.get? b = some o → s.heap.get? b = some o ∧ H b = none
  bsz : base.objs.size ≤ s.heap.objs.size
  funs : s.heap.FunFrames base outer
  frf : ∀ b ∈ frs outer, H b = none
  hok : HOk P w H s.heap
  bare : AllBare s.gens
/-- a call's end -/
def CE (outer : List Env) (P : Program) (w : World) (H : Hp) (s : Shared) (Q : VK) (u : Value) (s' : Shared) : Prop :=
  ∃ v H', s'.os = s.os ∧ AllBare s'.gens ∧ Un (frs outer) [] H H' s.heap s'.heap ∧ HOk P w H' s'.heap ∧ RelV v u ∧ Q v H'
def CR (CX : CXT) (outer : List Env) (P : Program) (w : World) (H : Hp) (s : Shared) (Q : VK) (E : XK) (r : Result) (s' : Shared) : Prop :=
  match r with
  | .ok (.ret u) => CE outer P w H s Q u s'
  | .ok _ => False
  | .error e => CX outer H s E e s'
structure FnOk (P : Program) (w : World) (K : PySem.W.Frag) (mg : Str → Option Value) (base : Heap) (CX : CXT) (k : Nat) (f : Addr) (fd : FuncData) (ps : List Str) (sp : Sp) : Prop where
  len : ∀ vs H Q E, sp vs H Q E → vs.length = ps.length
  run : ∀ (A : Around) (outer : List Env) (s : Shared) (H : Hp) (args : Args) (us : List Value) (vs : List V) (Q : VK) (E : XK), Room k A → Env0 P w K mg base A outer s H → BindsTo s fd args (ps.zip us) → Vals vs us → sp vs H Q E →
    codeAny (model P w) A (.call (.ref f) args) (CR CX outer P w H s Q E) s
theorem FnOk.mono {P : Program} {w : World} {K : PySem.W.Frag} {mg : Str → Option Value} {base : Heap} {CX : CXT} {j k : Nat} {f : Addr} {fd : FuncData} {ps : List Str} {sp : Sp} (F : FnOk P w K mg base CX j f fd ps sp) (h : j ≤ k) :
    FnOk P w K mg base CX k f fd ps sp := ⟨F.len, fun A outer s H args us vs Q E hr => F.run A outer s H args us vs Q E (hr.mono h)⟩
theorem Env0.make {P : Program} {w : World} {K : PySem.W.Frag} {mg : Str → Option Value} {base : Heap} {A : Around} {outer : List Env} {s : Shared} {H : Hp} (e : Env0 P w K mg base A outer s H) (C : Addr) (us : List Value) (kw : List (Str × Value)) :
    Env0 P w K mg base (A.under (.builtin "type.__call__" ⟨.ref C :: us, kw⟩)) outer s H := ⟨by first | exact e.frames | (simpa [Around.under, Code.envs, Code.isFrame, pushEnvs] using e.frames), e.mod, e.bs, e.bsz, e.funs, e.frf, e.hok, e.bare⟩
section
variable {X : Cx} {pins : List (Addr × Obj)} {σ : St} {H : Hp} {s s' : Shared}
/-- from a body: what a callee wants -/
theorem Inv.env0 (I : Inv X pins σ H s) : Env0 X.prog X.w X.K X.mg X.base X.A X.stack s H :=
  ⟨I.ok.frames, I.ok.mod, I.bs, Nat.le_trans I.ok.bsz I.sz, I.stack, I.stkFree, I.hok, I.bare⟩
/-- behind a call -/
theorem Inv.after {Q : VK} {u : Value} (I : Inv X pins σ H s) (h : CE X.stack X.prog X.w H s Q u s') : EP X pins σ Q u s' := by
  obtain ⟨v, H', os, bare, un, hok, r, q⟩ := h
  obtain ⟨hh, g, d, t, os'⟩ := s'
  obtain rfl : os' = s.os := os
  exact ⟨v, H', I.call (h' := hh) (g' := g) (d' := d) (t' := t) (ch := []) un hok bare (fun b z => absurd z (by simp)), r, q⟩
end

/-! ### calls -/
/-- f(..): the written arguments, then the defaults dvs; E: what is wanted of an exception -/
def tCall (sp : Sp) (dvs : List V) (E : XK) (t : TA) : TE := fun σ H Q => t σ H fun vs H1 => sp (vs ++ dvs) H1 Q E
/-- o.m(..) of an instance of the class at C -/
def tMeth (C : Addr) (m : Str) (sp : Sp) (dvs : List V) (E : XK) (ta : TE) (t : TA) : TE := fun σ H Q => ta σ H fun x H1 => ∃ a dx fs, x = .ref a ∧ H1 a = some (.ins C dx fs) ∧ fs.lookup m = none ∧
  t σ H1 fun vs H2 => sp (x :: (vs ++ dvs)) H2 Q E
/-- C(..): a new instance and its dict, then __init__ -/
def tMake (C : Addr) (sp : Sp) (dvs : List V) (E : XK) (t : TA) : TE := fun σ H Q => t σ H fun vs H1 => ∀ x dx, H1 x = none → H1 dx = none → dx ≠ x →
  sp (.ref x :: (vs ++ dvs)) (upd (upd H1 dx (.own x)) x (.ins C dx [])) (fun v H2 => v = .non ∧ Q (.ref x) H2) E

/-- how the parameters are bound: us the positional arguments, kw the keywords' values by name, ds the defaults that fill up -/
def Binds (K : PySem.W.Frag) (fd : FuncData) (ps : List Str) (ds : List Value) : Prop :=
  ∀ (s : Shared) (us : List Value), K.In s.heap → (us ++ ds).length = ps.length → BindsTo s fd ⟨us, []⟩ (ps.zip (us ++ ds))
/-- every parameter is given -/
theorem Binds.all {K : PySem.W.Frag} {fd : FuncData} {ps : List Str} (h : ∀ us : List Value, us.length = ps.length → bindArgs fd ⟨us, []⟩ = pure (ps.zip us)) : Binds K fd ps [] := fun s us _ hl => by
  rw [List.append_nil] at hl ⊢
  exact .of_eq (h us hl)

/-- an exception of a callee reaches what this body wants of exceptions -/
def Passes (CX : CXT) (X : Cx) (E : XK) : Prop := ∀ (pins : List (Addr × Obj)) (σ : St) (H : Hp) (s : Shared) (e : Value) (s' : Shared), Inv X pins σ H s → CX X.stack H s E e s' → X.xe e s'

section
variable {X : Cx} {CX : CXT} {k : Nat} {f C : Addr} {fd : FuncData} {ps : List Str} {sp : Sp} {dvs : List V} {ds : List Value} {E : XK} {x m : Str} {p pos apos : Pos} {e o : Expr} {es : List Expr} {ta : TE} {t : TA}

/-- the callee runs -/
theorem run_fn {pins : List (Addr × Obj)} {σ : St} {H : Hp} {s : Shared} {Q : VK} {us : List Value} {vs : List V} (F : FnOk X.prog X.w X.K X.mg X.base CX k f fd ps sp) (hr : Room k X.A) (hb : Binds X.K fd ps ds) (hd : Vals dvs ds) (hx : Passes CX X E)
    (I : Inv X pins σ H s) (r : Vals vs us) (h : sp (vs ++ dvs) H Q E) : wpAny (model X.prog X.w) X.A (call (.ref f) us) (EP X pins σ Q) X.xe s := by
  have r2 : Vals (vs ++ dvs) (us ++ ds) := r.append hd
  have hl : (us ++ ds).length = ps.length := by rw [← r2.length]; exact F.len _ _ _ _ h
  refine wpAny_call (codeAny_mono (F.run X.A X.stack s H ⟨us, []⟩ (us ++ ds) (vs ++ dvs) Q E hr I.env0 (hb s us I.kIn hl) r2 h) fun r s' hq => ?_)
  cases r with
  | error e => exact hx pins σ H s e s' I hq
  | ok fl =>
    cases fl with
    | ret u => exact I.after hq
    | next => exact False.elim hq
    | brk => exact False.elim hq
    | cont => exact False.elim hq

theorem pe_call (F : FnOk X.prog X.w X.K X.mg X.base CX k f fd ps sp) (hr : Room k X.A) (hg : Gl X x) (hm : X.mg x = some (.ref f)) (hk : PySem.W.keepIn X.K (.ref f) = true) (hb : Binds X.K fd ps ds) (hd : Vals dvs ds) (hx : Passes CX X E)
    (ha : PA X (e :: es) t) (hdb : (x == ("__debug__" : Str)) = false := by decide) (he : starEach (e :: es) X.env = (false, eval e X.env) :: starEach es X.env := by rfl) (hpl : (backTo pos (starEach es X.env)).any (·.1) = false := by rfl) :
    PE X (.Call (.Name x p) (e :: es) [] pos) (tCall sp dvs E t) := by
  intro pins s σ H Q I h
  refine wpAny_Call_Name_kw (ld_glob I hg hm ?_ hdb)
  refine PySem.W.callWith_K (h₀ := X.base) I.ok.mod.kin hk (thn (ha pos pins s σ H _ I h) fun us s1 ⟨vs, H1, I1, r, q⟩ => ⟨I1.kIn, ?_⟩) he hpl
  exact run_fn F hr hb hd hx I1 r q
/-- o.m(e, ..) -/
theorem pe_meth {pl : Sem Bool} (he : PE X o ta) (c : Cls X.K C) (hm : Meth X.K C m f) (F : FnOk X.prog X.w X.K X.mg X.base CX k f fd ps sp) (hr : Room k X.A) (hb : Binds X.K fd ps ds) (hd : Vals dvs ds) (hx : Passes CX X E) (ha : PA X (e :: es) t)
    (hst : starEach (e :: es) X.env = (false, eval e X.env) :: starEach es X.env := by rfl) (hpl : (backTo pos (starEach es X.env)).any (·.1) = false := by rfl)
    (ht : eval (.Call (.Attribute o m apos) (e :: es) [] pos) X.env = (do
      let ov ← eval o X.env
      standAt apos.atName
      let (f, first) ← holding [ov] (getMethod ov m pl)
      callWith pos f first (backTo pos (starEach (e :: es) X.env)) (backToKw pos (keywordEach [] X.env))) := by rfl) :
    PE X (.Call (.Attribute o m apos) (e :: es) [] pos) (tMeth C m sp dvs E ta t) := by
  intro pins s σ H Q I h
  refine PySem.W.methodCall_KW (pl := pl) (thn (he pins s σ H _ I h) fun u s1 ⟨x, H1, I1, rx, a, dx, fs, ex, ea, l, q⟩ => ?_) ht
  subst ex
  obtain rfl : u = Value.ref a := rx
  refine getmeth_ok I1 ea c hm l ?_
  refine PySem.W.callWith_K (first := [.ref a]) (h₀ := X.base) I.ok.mod.kin hm.kp (thn (ha pos pins s1 σ H1 _ I1 q) fun us s2 ⟨vs, H2, I2, r, q2⟩ => ⟨I2.kIn, ?_⟩) hst hpl
  exact run_fn (us := .ref a :: us) (vs := .ref a :: vs) F hr hb hd hx I2 (.cons rfl r) q2
/-- o.m() -/
theorem pe_meth0 {pl : Sem Bool} (he : PE X o ta) (c : Cls X.K C) (hm : Meth X.K C m f) (F : FnOk X.prog X.w X.K X.mg X.base CX k f fd ps sp) (hr : Room k X.A) (hb : Binds X.K fd ps ds) (hd : Vals dvs ds) (hx : Passes CX X E)
    (ht : eval (.Call (.Attribute o m apos) [] [] pos) X.env = (do
      let ov ← eval o X.env
      standAt apos.atName
      let (f, first) ← holding [ov] (getMethod ov m pl)
      callWith pos f first (backTo pos (starEach [] X.env)) (backToKw pos (keywordEach [] X.env))) := by rfl) :
    PE X (.Call (.Attribute o m apos) [] [] pos) (tMeth C m sp dvs E ta tNil) := by
  intro pins s σ H Q I h
  refine PySem.W.methodCall_KW (pl := pl) (thn (he pins s σ H _ I h) fun u s1 ⟨x, H1, I1, rx, a, dx, fs, ex, ea, l, q⟩ => ?_) ht
  subst ex
  obtain rfl : u = Value.ref a := rx
  refine getmeth_ok I1 ea c hm l ?_
  exact PySem.W.callWith_K0 (first := [.ref a]) I1.kIn hm.kp (run_fn (us := [.ref a]) (vs := [.ref a]) F hr hb hd hx I1 (.cons rfl .nil) q)

/-- what a class must have to be made -/
structure Mk (K : PySem.W.Frag) (C f : Addr) : Prop where
  makes : PySem.W.makesIn K C = true
  init : PySem.W.findIn K (.ref C) "__init__" = some (some (.ref f))
  fn : PySem.W.isFn K (.ref f) = true
  kp : PySem.W.keepIn K (.ref C) = true

theorem run_make {pins : List (Addr × Obj)} {σ : St} {H : Hp} {s : Shared} {Q : VK} {us : List Value} {vs : List V} (M : Mk X.K C f) (F : FnOk X.prog X.w X.K X.mg X.base CX k f fd ps sp) (hr : Room (k + 1) X.A) (hb : Binds X.K fd ps ds) (hd : Vals dvs ds)
    (hx : Passes CX X E) (I : Inv X pins σ H s) (r : Vals vs us)
    (h : ∀ x dx, H x = none → H dx = none → dx ≠ x → sp (.ref x :: (vs ++ dvs)) (upd (upd H dx (.own x)) x (.ins C dx [])) (fun v H2 => v = .non ∧ Q (.ref x) H2) E) :
    wpAny (model X.prog X.w) X.A (call (.ref C) us) (EP X pins σ Q) X.xe s := by
  have hq := h (s.heap.objs.size + 1) s.heap.objs.size (I.hok.fresh (Nat.le_succ _)) (I.hok.fresh (Nat.le_refl _)) (Nat.ne_of_lt (Nat.lt_succ_self _))
  have I2 := Inv.made (C := C) I
  have r2 : Vals (V.ref (s.heap.objs.size + 1) :: (vs ++ dvs)) (Value.ref (s.heap.objs.size + 1) :: (us ++ ds)) := .cons rfl (r.append hd)
  have hl : (Value.ref (s.heap.objs.size + 1) :: us ++ ds).length = ps.length := by
    have e := r2.length
    rw [F.len _ _ _ _ hq] at e
    exact e.symm
  refine wpAny_call (make_map (f := f) I.kIn M.makes M.init (beq_iff_eq.mp M.fn) (codeAny_mono (F.run _ X.stack _ _ ⟨Value.ref (s.heap.objs.size + 1) :: us, []⟩ (Value.ref (s.heap.objs.size + 1) :: (us ++ ds)) _ _ E (hr.make C us [])
    (I2.env0.make C us []) (hb _ (Value.ref (s.heap.objs.size + 1) :: us) I2.kIn hl) r2 hq) fun r s' hq' => ?_))
  cases r with
  | error e => exact hx pins σ _ _ e s' I2 hq'
  | ok fl =>
    cases fl with
    | ret u =>
      obtain ⟨v, H', I3, rv, ev, q3⟩ := I2.after hq'
      subst ev
      exact ⟨rv, ⟨V.ref (s.heap.objs.size + 1), H', I3, rfl, q3⟩⟩
    | next => exact False.elim hq'
    | brk => exact False.elim hq'
    | cont => exact False.elim hq'
theorem pe_make0 (M : Mk X.K C f) (F : FnOk X.prog X.w X.K X.mg X.base CX k f fd ps sp) (hr : Room (k + 1) X.A) (hg : Gl X x) (hm : X.mg x = some (.ref C)) (hb : Binds X.K fd ps ds) (hd : Vals dvs ds) (hx : Passes CX X E)
    (hdb : (x == ("__debug__" : Str)) = false := by decide) : PE X (.Call (.Name x p) [] [] pos) (tMake C sp dvs E tNil) := by
  intro pins s σ H Q I h
  refine wpAny_Call_Name_kw (ld_glob I hg hm ?_ hdb)
  exact PySem.W.callWith_K0 I.kIn M.kp (run_make (us := []) M F hr hb hd hx I .nil h)
end

/-! ### keywords -/
section
variable {X : Cx} {CX : CXT} {k : Nat} {f C : Addr} {fd : FuncData} {ps ks : List Str} {sp : Sp} {E : XK} {x m : Str} {p pos apos kpos : Pos} {e o : Expr} {es : List Expr} {kws : List Keyword} {te ta : TE} {t tk : TA} {nm : Option Str}
/-- how a call with keywords binds: g puts the positional values us and the keywords' values ws (names ks) in the parameters' order, defaults among them -/
structure KBinds (K : PySem.W.Frag) (fd : FuncData) (ps ks : List Str) (g : List Value → List Value → List Value) (gV : List V → List V → List V) : Prop where
  to : ∀ (s : Shared) (us ws : List Value), K.In s.heap → (g us ws).length = ps.length → BindsTo s fd ⟨us, ks.zip ws⟩ (ps.zip (g us ws))
  rel : ∀ {vs : List V} {us : List Value} {zs : List V} {ws : List Value}, Vals vs us → Vals zs ws → Vals (gV vs zs) (g us ws)
variable {g : List Value → List Value → List Value} {gV : List V → List V → List V}
end

/-! ### a def's body keeps its promise -/
/-- names: the parameters first -/
structure FnScope (N P : List Str) (sc : Scope) : Prop where
  kind : sc.kind = .function
  co : sc.isCoroutine = false
  gen : sc.isGenerator = false
  nd : N.Nodup
  pre : N.take P.length = P
  par : ∀ x ∈ P, sc.names.lookup x = some .local ∨ sc.names.lookup x = some .cell
  nofree : ∀ y ∈ sc.names, y.2 ≠ .free

theorem bindL_out {kindOf : Str → Option NameKind} {x : Str} : ∀ {binds : List (Str × Value)} {m : Str → Option Value}, (∀ v, (x, v) ∉ binds) → bindL kindOf binds m x = m x
  | [], _, _ => rfl
  | (n, v) :: r, m, h => by
    unfold bindL
    rw [bindL_out fun w hw => h w (List.mem_cons_of_mem _ hw)]
    split
    · have : x ≠ n := by rintro rfl; exact h v List.mem_cons_self
      simp [this]
    · rfl
theorem bindC_out {kindOf : Str → Option NameKind} {x : Str} : ∀ {binds : List (Str × Value)} {m : Str → Option Value}, (∀ v, (x, v) ∉ binds) → bindC kindOf binds m x = m x
  | [], _, _ => rfl
  | (n, v) :: r, m, h => by
    unfold bindC
    rw [bindC_out fun w hw => h w (List.mem_cons_of_mem _ hw)]
    split
    · rfl
    · have : x ≠ n := by rintro rfl; exact h v List.mem_cons_self
      simp [this]
theorem bindL_get {kindOf : Str → Option NameKind} {x : Str} {v : Value} : ∀ {P : List Str} {vs : List Value} {i : Nat} {m : Str → Option Value}, P.Nodup → P[i]? = some x → vs[i]? = some v → kindOf x = some .local →
    bindL kindOf (P.zip vs) m x = some v
  | [], _, _, _, _, h, _, _ => by simp at h
  | _ :: _, [], _, _, _, _, h, _ => by simp at h
  | p :: P, w :: vs, 0, m, nd, h1, h2, hk => by
    simp at h1 h2; subst h1; subst h2
    show bindL kindOf ((p, w) :: P.zip vs) m p = _
    unfold bindL
    rw [bindL_out fun v hv => (List.nodup_cons.mp nd).1 (List.of_mem_zip hv).1, if_pos hk]
    simp
  | p :: P, w :: vs, i + 1, m, nd, h1, h2, hk => by
    show bindL kindOf ((p, w) :: P.zip vs) m x = _
    unfold bindL
    exact bindL_get (i := i) (List.nodup_cons.mp nd).2 (by simpa using h1) (by simpa using h2) hk
theorem bindC_get {kindOf : Str → Option NameKind} {x : Str} {v : Value} : ∀ {P : List Str} {vs : List Value} {i : Nat} {m : Str → Option Value}, P.Nodup → P[i]? = some x → vs[i]? = some v → kindOf x ≠ some .local →
    bindC kindOf (P.zip vs) m x = some v
  | [], _, _, _, _, h, _, _ => by simp at h
  | _ :: _, [], _, _, _, _, h, _ => by simp at h
  | p :: P, w :: vs, 0, m, nd, h1, h2, hk => by
    simp at h1 h2; subst h1; subst h2
    show bindC kindOf ((p, w) :: P.zip vs) m p = _
    unfold bindC
    rw [bindC_out fun v hv => (List.nodup_cons.mp nd).1 (List.of_mem_zip hv).1, if_neg hk]
    simp
  | p :: P, w :: vs, i + 1, m, nd, h1, h2, hk => by
    show bindC kindOf ((p, w) :: P.zip vs) m x = _
    unfold bindC
    exact bindC_get (i := i) (List.nodup_cons.mp nd).2 (by simpa using h1) (by simpa using h2) hk

/-- the names' values at the entry -/
def start (N : List Str) (vs : List V) : St := vs.map some ++ List.replicate (N.length - vs.length) none

/-- the context of a def's body, at its entry; an exception leaves the frame, then lies as CX says -/
def cxOf (CX : CXT) (P : Program) (w : World) (K : PySem.W.Frag) (mg : Str → Option Value) (base : Heap) (N : List Str) (qual : Str) (scope : Scope) (f : Addr) (cd : Value) (A : Around) (outer : List Env) (s : Shared) (H : Hp) (E : XK) : Cx where
  prog := P
  w := w
  K := K
  mg := mg
  base := base
  A := A.deeper (envOfC qual scope s.heap.objs.size f cd)
  N := N
  s_0 := s
  H_0 := H
  env := envOfC qual scope s.heap.objs.size f cd
  outer := outer
  stack := envOfC qual scope s.heap.objs.size f cd :: outer
  ex := []
  calm := true
  fn := fun _ => true
  pn := []
  xe := fun e s' => wpAny (model P w) (A.deeper (envOfC qual scope s.heap.objs.size f cd)) (leaving (envOfC qual scope s.heap.objs.size f cd) e) (fun _ s'' => CX outer H s E e s'') (fun e' s'' => CX outer H s E e' s'') s'

theorem cell_has {sc : Scope} {n : Nat} {x : Str} (h : sc.names.lookup x = some .cell) : ∃ c, (cellsFrom n sc.names []).lookup x = some c := by
  have q := PySem.W.cellsFrom_some sc.names n [] (.inl h)
  exact Option.isSome_iff_exists.mp q

theorem inv_start {CX : CXT} {P : Program} {w : World} {K : PySem.W.Frag} {mg : Str → Option Value} {base : Heap} {N ps : List Str} {qual : Str} {scope : Scope} {f : Addr} {cd : Value} {A : Around} {outer : List Env} {s s1 : Shared} {H : Hp} {E : XK} {us : List Value} {vs : List V}
    (S : FnScope N ps scope) (hd : A.handled = none) (e0 : Env0 P w K mg base A outer s H) (hl : vs.length = ps.length) (r : Vals vs us)
    (x : InCallC s s.heap.objs.size (bindL (envOfC qual scope s.heap.objs.size f cd).kindOf (ps.zip us) fun _ => none) (cellsFrom (s.heap.objs.size + 1) scope.names []) (bindC (envOfC qual scope s.heap.objs.size f cd).kindOf (ps.zip us) fun _ => none) s1) :
    Inv (cxOf CX P w K mg base N qual scope f cd A outer s H E) [] (start N vs) H s1 := by
  have hpl : ps.length ≤ N.length := by have := congrArg List.length S.pre; rw [List.length_take] at this; omega
  obtain ⟨h1, tk, rfl, hk⟩ := x.done
  have noA : ∀ b : Addr, b ∉ (cxOf CX P w K mg base N qual scope f cd A outer s H E).ex := fun b z => absurd (show b ∈ ([] : List Addr) from z) (by simp)
  refine ⟨⟨e0.mod, S.kind, rfl, rfl, Nat.le_refl _, fun y z c h1 h2 => ?_, fun y hy => ?_, fun y c _ h => ?_, fun _ => hd, Around.frames_deeper e0.frames, .inr ⟨rfl, rfl⟩, fun b z => absurd z (noA b), e0.bs, e0.bsz, fun b _ _ => noA b, fun b z => absurd z (noA b), e0.funs, e0.frf⟩,
    rfl, e0.bare, Un.kept hk, ⟨_, x.toInCall.ns, fun i y v h1 h2 h3 => ?_⟩, fun y c h => ⟨_, x.cell y c h⟩, e0.hok.fresh (Nat.le_refl _), fun y c h => ?_, fun p hp => absurd (show p ∈ ([] : List (Addr × Obj)) from hp) (by simp), e0.hok.kept hk, ?_⟩
  · exact name_of_addr x.apart (PySem.mem_of_lookup h1) (PySem.mem_of_lookup h2)
  · have hy : scope.names.lookup y = some .cell ∨ scope.names.lookup y = some .free := hy
    rcases hy with hy | hy
    · exact cell_has hy
    · exact absurd rfl (S.nofree _ (PySem.mem_of_lookup hy))
  · exact Nat.le_of_lt (x.above y c (PySem.mem_of_lookup h))
  · have hi : i < vs.length := by
      unfold start at h2
      by_cases hi : i < vs.length
      · exact hi
      · rw [List.getElem?_append_right (by simpa using hi)] at h2
        rw [List.getElem?_replicate] at h2
        split at h2 <;> cases h2
    have ha : vs[i]? = some v := by
      unfold start at h2
      rw [List.getElem?_append_left (by simpa using hi), List.getElem?_map] at h2
      cases e : vs[i]? with
      | none => rw [e] at h2; cases h2
      | some a => rw [e] at h2; cases h2; rfl
    obtain ⟨u, hu, rv⟩ := r.get ha
    have hp : ps[i]? = some y := by
      rw [← S.pre, List.getElem?_take_of_lt (by omega)]; exact h1
    have ndP : ps.Nodup := by rw [← S.pre]; exact S.nd.sublist (List.take_sublist _ _)
    refine ⟨u, rv, ?_⟩
    rcases S.par y (List.mem_of_getElem? hp) with k | k
    · exact .inl ⟨k, bindL_get ndP hp hu k⟩
    · obtain ⟨c, e⟩ := cell_has (n := s.heap.objs.size + 1) k
      refine .inr ⟨.inl k, c, e, ?_⟩
      have q := x.cell y c e
      rw [bindC_get ndP hp hu (by show scope.names.lookup y ≠ _; rw [k]; decide)] at q
      exact q
  · exact e0.hok.fresh (Nat.le_of_lt (x.above y c (PySem.mem_of_lookup h)))
  · unfold start
    show _ = N.length
    rw [List.length_append, List.length_map, List.length_replicate]
    omega

/-- THE RULE: a def (or a method) of the text, by its body. The body's reading t is chosen for each entry; it is run at the parameters' values -/
theorem fn_of {CX : CXT} {P : Program} {w : World} {K : PySem.W.Frag} {mg : Str → Option Value} {base : Heap} {k : Nat} {f : Addr} {name qual : Str} {params : Arguments} {body : List Stmt} {scope : Scope} {dV kV doc pm cdv ct oc : Value} {an od : Option Addr}
    {osl : Array (Option Value)} {N ps : List Str} {sp : Sp} (lk : K.lookup f = some ⟨oc, od, .func (PySem.W.fnOf name qual params body scope dV kV doc pm an cdv ct), osl⟩) (hcd : PySem.W.codeIn K cdv qual = true) (S : FnScope N ps scope)
    (len : ∀ vs H Q E, sp vs H Q E → vs.length = ps.length)
    (hbody : ∀ (A : Around) (outer : List Env) (s : Shared) (H : Hp) (vs : List V) (Q : VK) (E : XK), Room k (A.deeper (envOfC qual scope s.heap.objs.size f cdv)) → sp vs H Q E →
      ∃ t, PSs (cxOf CX P w K mg base N qual scope f cdv A outer s H E) body t ∧ t { nx := fun _ H' => Q .non H', rt := Q } (start N vs) H) :
    FnOk P w K mg base CX (k + 1) f (PySem.W.fnOf name qual params body scope dV kV doc pm an cdv ct) ps sp := by
  refine ⟨len, fun A outer s H args us vs Q E hr e0 hb r hsp => ?_⟩
  have hl := len _ _ _ _ hsp
  have KX : K.In s.heap := e0.mod.kin.keeps fun b o e => (e0.bs b o e).1
  have lim : s.heap.NoLimit := e0.mod.nolimit.keeps fun b o e => (e0.bs b o e).1
  have hkind : ∀ y ∈ ps.zip us, scope.names.lookup y.1 = some .local ∨ (scope.names.lookup y.1 = some .cell ∧ ((cellsFrom (s.heap.objs.size + 1) scope.names []).lookup y.1).isSome = true) := fun ⟨n, v⟩ hy => by
    rcases S.par n (List.of_mem_zip hy).1 with q | q
    · exact .inl q
    · exact .inr ⟨q, PySem.W.cellsFrom_some _ _ _ (.inl q)⟩
  refine codeAny_call_function hr.depth (KX _ _ lk) rfl S.co S.gen rfl (PySem.W.codeRec_of KX hcd) (hb _ _ _ _ ?_)
  refine wpAny_newFunctionEnv_cells S.kind hkind fun env he s1 x => ?_
  subst he
  refine ⟨lim.keeps x.toInCall.keep, codeAny_func ?_⟩
  obtain ⟨t, ht, hq⟩ := hbody A outer s H vs Q E (hr.deeper _) hsp
  have I : Inv (cxOf CX P w K mg base N qual scope f cdv A outer s H E) [] (start N vs) H s1 := inv_start S hr.hd e0 hl r x
  refine wpAny_mono (ht [] s1 (start N vs) H _ I hq) (fun fl s' hs => ?_) fun e s' hs => hs
  have fin : ∀ {σ' : St} {H' : Hp} {v : V} {u : Value}, Inv (cxOf CX P w K mg base N qual scope f cdv A outer s H E) [] σ' H' s' → RelV v u → Q v H' → CE outer P w H s Q u s' :=
    fun {σ' H' v u} J rv q => ⟨v, H', J.os, J.bare, J.base, J.hok, rv, q⟩
  cases fl with
  | ret u =>
    obtain ⟨v, σ', H', J, rv, q⟩ := hs
    exact fin J rv q
  | next =>
    obtain ⟨σ', H', J, q⟩ := hs
    exact fin (v := V.non) (u := Value.none) J rfl q
  | brk =>
    obtain ⟨_, _, _, q⟩ := hs
    exact False.elim q
  | cont =>
    obtain ⟨_, _, _, q⟩ := hs
    exact False.elim q
end L2

namespace L2
open PySem PySem.Spec PyProof.Rows
section
variable {X : Cx} {x : Str} {p pos : Pos} {e : Expr} {es : List Expr} {t : TA} {id T : String} {r : List V → Hp → VK → Prop}

def tCB (r : List V → Hp → VK → Prop) (t : TA) : TE := fun σ H Q => t σ H fun vs H1 => r vs H1 Q
/-- f(e, ..), f a built-in function -/
theorem pe_callB (hc : CallR X (.builtin id) r) (hg : Gl X x) (hm : X.mg x = none) (hv : bootBuiltins x = some (.builtin id)) (ha : PA X (e :: es) t) (hn : x ≠ "__name__" := by decide) (hdb : (x == ("__debug__" : Str)) = false := by decide)
    (he : starEach (e :: es) X.env = (false, eval e X.env) :: starEach es X.env := by rfl) (hpl : (backTo pos (starEach es X.env)).any (·.1) = false := by rfl) : PE X (.Call (.Name x p) (e :: es) [] pos) (tCB r t) := by
  intro pins s σ H Q I h
  refine wpAny_Call_Name_kw (ld_blt I hg hm hv ?_ hn hdb)
  exact PyProof.Rows.callWith_builtin1 (thn (ha pos pins s σ H _ I h) fun us s1 ⟨vs, H1, I1, r1, q1⟩ => hc pins s1 σ H1 vs us Q I1 r1 q1) he hpl
/-- T(e, ..), T a built-in type -/
theorem pe_callTy (hc : CallR X (.type T) r) (hg : Gl X x) (hm : X.mg x = none) (hv : bootBuiltins x = some (.type T)) (ha : PA X (e :: es) t) (hn : x ≠ "__name__" := by decide) (hdb : (x == ("__debug__" : Str)) = false := by decide)
    (he : starEach (e :: es) X.env = (false, eval e X.env) :: starEach es X.env := by rfl) (hpl : (backTo pos (starEach es X.env)).any (·.1) = false := by rfl) : PE X (.Call (.Name x p) (e :: es) [] pos) (tCB r t) := by
  intro pins s σ H Q I h
  refine wpAny_Call_Name_kw (ld_blt I hg hm hv ?_ hn hdb)
  exact PyProof.Rows.callWith_type1 (thn (ha pos pins s σ H _ I h) fun us s1 ⟨vs, H1, I1, r1, q1⟩ => hc pins s1 σ H1 vs us Q I1 r1 q1) he hpl
end
end L2

namespace HT
open PySem PyProof.Rows

section
open PySem.SeqAt
open PySem.AutoSeq1 (wpAny_loadPart')
open PySem.MeetsSeq PySem.MeetsSeq2 PySem.MeetsSeq3

end

section
variable {prog : Program} {w : World} {A : Around} {E : Value → Shared → Prop} {s : Shared}

/-! ### t[a:b], not the whole -/
/-- a slice's bound as a place among n (d where it is left out) -/
def sIx (n d : Nat) : Option Int → Nat
  | none => d
  | some v => if v < 0 then (v + (n : Int)).toNat else min v.toNat n
theorem sIx_none (n d : Nat) : sIx n d none = d := rfl
theorem sIx_nat (n d k : Nat) : sIx n d (some (k : Int)) = min k n := by
  show (if (k : Int) < 0 then ((k : Int) + (n : Int)).toNat else min (k : Int).toNat n) = min k n
  rw [if_neg (by omega), Int.toNat_natCast]
end
end HT

namespace L2
open PySem PySem.Spec PyProof.Rows

/-! ### the parts of a slice -/
abbrev TO := St → Hp → (Option Int → Hp → Prop) → Prop
/-- a slice's part (left out, or an int) -/
def PO (X : Cx) (e : Option Expr) (t : TO) : Prop :=
  ∀ (pins : List (Addr × Obj)) (s : Shared) (σ : St) (H : Hp) (Q : Option Int → Hp → Prop), Inv X pins σ H s → t σ H Q →
    wpAny (model X.prog X.w) X.A (evalPart e X.env) (fun u s' => ∃ o H', Inv X pins σ H' s' ∧ IsPart u o ∧ Q o H') X.xe s
def tNoPart : TO := fun _ H Q => Q none H
def tPart (t : TE) : TO := fun σ H Q => t σ H fun x H1 => ∃ i, x = .int i ∧ Q (some i) H1

section
variable {X : Cx} {e : Expr} {te : TE} {lo hi : Option Expr} {tl th : TO} {pos p2 : Pos}

theorem po_none : PO X none tNoPart := by
  intro pins s σ H Q I h
  rw [evalPart_none]
  exact wpAny_pure ⟨none, H, I, .none, h⟩
theorem po_some (h : PE X e te) : PO X (some e) (tPart te) := by
  intro pins s σ H Q I hw
  rw [evalPart_some]
  refine thn (h pins s σ H _ I hw) fun u s1 ⟨x, H1, I1, r1, q1⟩ => ?_
  obtain ⟨i, rfl, q⟩ := q1
  obtain ⟨t, rfl⟩ := r1
  exact ⟨some i, H1, I1, .int i t, q⟩

/-- what a slice of a value is, by values: the slice object stands at sl -/
def SlR (X : Cx) (r : V → Option Int → Option Int → Hp → VK → Prop) : Prop :=
  ∀ (pins : List (Addr × Obj)) (s : Shared) (σ : St) (H : Hp) (x : V) (v vl vu : Value) (lo hi : Option Int) (sl : Addr) (Q : VK), Inv X pins σ H s → RelV x v → s.heap.IsSliceOf sl vl vu .none → IsPart vl lo → IsPart vu hi → r x lo hi H Q →
    ∃ T id, typeLookup (.type T) "__getitem__" = pure (some (.builtin id)) ∧ s.TypeIs v T ∧ wpAny (model X.prog X.w) X.A (getItem v (.ref sl)) (EP X pins σ Q) X.xe s
def tSl (r : V → Option Int → Option Int → Hp → VK → Prop) (te : TE) (tl th : TO) : TE := fun σ H Q => te σ H fun x H1 => tl σ H1 fun l H2 => th σ H2 fun u H3 => r x l u H3 Q
/-- a[lo:hi], any a -/
theorem pe_slice {r : V → Option Int → Option Int → Hp → VK → Prop} (hr : SlR X r) (he : PE X e te) (hl : PO X lo tl) (hu : PO X hi th) : PE X (.Subscript e (.Slice lo hi none p2) pos) (tSl r te tl th) := by
  intro pins s σ H Q I h
  refine Subscript_ (thn (he pins s σ H _ I h) fun v s1 ⟨x, H1, I1, r1, q1⟩ => ?_)
  refine wpAny_Slice (thn (hl pins s1 σ H1 _ I1 q1) fun vl s2 ⟨l, H2, I2, pl, q2⟩ => thn (hu pins s2 σ H2 _ I2 q2) fun vu s3 ⟨u, H3, I3, pu, q3⟩ => ?_)
  rw [evalPart_none]
  refine wpAny_pure ?_
  have I4 : Inv X pins σ H3 { s3 with heap := s3.heap.push { cls := .type "slice", data := .fields #[vl, vu, .none] } } := I3.kept (t' := s3.toks) fun b ob q => Heap.get?_push_of_some _ q
  obtain ⟨T, id, hT, ht, hg⟩ := hr pins { s3 with heap := s3.heap.push { cls := .type "slice", data := .fields #[vl, vu, .none] } } σ H3 x v vl vu l u s3.heap.objs.size Q I4 r1 (Heap.IsSliceOf.new ..) pl pu q3
  show wpAny (model X.prog X.w) X.A (subscriptTail e (.Slice lo hi none p2) v (.ref s3.heap.objs.size)) (EP X pins σ Q) X.xe { s3 with heap := s3.heap.push { cls := .type "slice", data := .fields #[vl, vu, .none] } }
  exact tail_any (ops := [.ref s3.heap.objs.size, v]) ht hT hg (by with_unfolding_all rfl)

/-- the items of xs[lo:hi] -/
def cutV (xs : List V) (lo hi : Option Int) : List V := (xs.drop (HT.sIx xs.length 0 lo)).take (HT.sIx xs.length xs.length hi - HT.sIx xs.length 0 lo)
theorem cutV_length (xs : List V) (lo hi : Option Int) : (cutV xs lo hi).length ≤ xs.length := by
  unfold cutV
  rw [List.length_take, List.length_drop]
  omega
/-! ### t < u, t + u -/
end
end L2

namespace L2
open PySem PySem.Spec PyProof.Rows

/-! ### places -/
/-- the place that an index of any sign means -/
def ixN (n : Nat) (i : Int) : Option Nat := if 0 ≤ i then (if i < n then some i.toNat else none) else if -(n : Int) ≤ i then some (i + n).toNat else none
def atI {α : Type} (xs : List α) (i : Int) : Option α := (ixN xs.length i).bind fun j => xs[j]?
theorem ixN_seq {n : Nat} {i : Int} {j : Nat} (h : ixN n i = some j) : seqIndex? i n = some j ∧ j < n ∧ -(n : Int) ≤ i ∧ i < n := by
  unfold ixN at h
  by_cases h0 : 0 ≤ i
  · rw [if_pos h0] at h
    by_cases h1 : i < n
    · rw [if_pos h1] at h
      have e : i.toNat = j := Option.some.inj h
      exact ⟨by rw [seqIndex_of h0 h1, e], by omega, by omega, h1⟩
    · rw [if_neg h1] at h; cases h
  · rw [if_neg h0] at h
    by_cases h1 : -(n : Int) ≤ i
    · rw [if_pos h1] at h
      have e : (i + n).toNat = j := Option.some.inj h
      exact ⟨by rw [seqIndex_neg (by omega) h1, e], by omega, h1, by omega⟩
    · rw [if_neg h1] at h; cases h
theorem atI_get {α : Type} {xs : List α} {i : Int} {v : α} (h : atI xs i = some v) : ∃ j, seqIndex? i xs.length = some j ∧ xs[j]? = some v ∧ j < xs.length ∧ -(xs.length : Int) ≤ i ∧ i < xs.length := by
  unfold atI at h
  cases e : ixN xs.length i with
  | none => rw [e] at h; cases h
  | some j =>
    rw [e] at h
    obtain ⟨h1, h2, h3, h4⟩ := ixN_seq e
    exact ⟨j, h1, h, h2, h3, h4⟩
theorem atI_nat {α : Type} {xs : List α} {j : Nat} {v : α} (h : xs[j]? = some v) : atI xs (j : Int) = some v := by
  have hj : j < xs.length := (List.getElem?_eq_some_iff.mp h).1
  have e : ixN xs.length (j : Int) = some j := by
    unfold ixN
    rw [if_pos (by omega), if_pos (by omega)]; simp
  unfold atI; rw [e]; exact h
theorem atI_last {α : Type} (xs : List α) (v : α) : atI (xs ++ [v]) (-1) = some v := by
  have hl : (xs ++ [v]).length = xs.length + 1 := by simp
  have e : ixN (xs ++ [v]).length (-1) = some xs.length := by
    unfold ixN
    rw [hl, if_neg (by decide), if_pos (by omega)]
    congr 1
    omega
  unfold atI
  rw [e]
  show (xs ++ [v])[xs.length]? = some v
  simp

/-! ### what may be subscripted -/
/-- what stands as an index of a plain subscript -/
def PlainIx (b : Expr) : Prop := ∀ o i, subscripted b false o i = operate [o, i] (getItem o i)
/-- a subscript by values -/
def IxR (X : Cx) (r : R2) : Prop :=
  ∀ (value slice : Expr) (pins : List (Addr × Obj)) (s : Shared) (σ : St) (H : Hp) (x y : V) (v u : Value) (Q : VK), Inv X pins σ H s → RelV x v → RelV y u → r x y H Q →
    subscripted slice false v u = operate [v, u] (getItem v u) → wpAny (model X.prog X.w) X.A (subscriptTail value slice v u) (EP X pins σ Q) X.xe s
/-- a call of a builtin's method by values: the receiver, the arguments -/
def MtR (X : Cx) (id : String) (r : V → List V → Hp → VK → Prop) : Prop :=
  ∀ (pins : List (Addr × Obj)) (s : Shared) (σ : St) (H : Hp) (x : V) (xs : List V) (v : Value) (us : List Value) (Q : VK), Inv X pins σ H s → RelV x v → Vals xs us → r x xs H Q →
    wpAny (model X.prog X.w) X.A (call (.builtin id) (v :: us)) (EP X pins σ Q) X.xe s
section
variable {X : Cx} {a b : Expr} {ta tb : TE} {pos : Pos}
/-- a[b] -/
theorem pe_ix {r : R2} (hr : IxR X r) (ha : PE X a ta) (hb : PE X b tb) (hs : PlainIx b) : PE X (.Subscript a b pos) (tOp r ta tb) := by
  intro pins s σ H Q I h
  exact Subscript_ (binT ha hb I h fun v u s2 x y H2 I2 rx ry q => hr a b pins s2 σ H2 x y v u Q I2 rx ry q (hs _ _))

def rIxL (K : PySem.W.Frag) : R2 := fun x y H Q => ∃ p xs i v, x = .ref p ∧ y = .int i ∧ SqL K H p xs ∧ atI xs i = some v ∧ Q v H
def rIxT (K : PySem.W.Frag) : R2 := fun x y H Q => ∃ p xs i v, x = .ref p ∧ y = .int i ∧ SqT K H p xs ∧ atI xs i = some v ∧ Q v H
theorem ix_list : IxR X (rIxL X.K) := by
  intro value slice pins s σ H x y v u Q I rx ry h hs
  obtain ⟨p, xs, i, z, rfl, rfl, hq, he, q⟩ := h
  cases rx
  obtain ⟨t, rfl⟩ := ry
  obtain ⟨its, r, pl, hz⟩ := I.list hq
  obtain ⟨j, h1, h2, h3, h4, h5⟩ := atI_get he
  obtain ⟨w, ew, rw'⟩ := r.get h2
  have hl := r.length
  have hn := line63
  have fin : EP X pins σ Q w s := ⟨z, H, I, rw', q⟩
  by_cases h0 : 0 ≤ i
  · have hj : i.toNat = j := by
      rw [seqIndex_of h0 h5] at h1
      exact Option.some.inj h1
    exact item_listR pl.isList h0 (by omega) (by rw [hj]; simpa using ew) fin hs
  · have hj : (i + (its.toArray.size : Int)).toNat = j := by
      rw [seqIndex_neg (by omega) h4] at h1
      rw [List.size_toArray, ← hl]
      exact Option.some.inj h1
    exact subscriptTail_builtinR (x := w) pl.isList.typeIs slot_list_getitem.lookup
      (wpAny_getItem_list_neg (Q := fun r s' => r = w ∧ EP X pins σ Q r s') pl.isList (by omega) (by rw [List.size_toArray] <;> omega) (by omega) (by rw [hj]; simpa using ew) ⟨rfl, fin⟩) hs
theorem ix_tup : IxR X (rIxT X.K) := by
  intro value slice pins s σ H x y v u Q I rx ry h hs
  obtain ⟨p, xs, i, z, rfl, rfl, hq, he, q⟩ := h
  cases rx
  obtain ⟨t, rfl⟩ := ry
  obtain ⟨its, r, pl, hz⟩ := I.tuple hq
  obtain ⟨j, h1, h2, h3, h4, h5⟩ := atI_get he
  obtain ⟨w, ew, rw'⟩ := r.get h2
  have hl := r.length
  have hn := line63
  have fin : EP X pins σ Q w s := ⟨z, H, I, rw', q⟩
  exact subscriptTail_builtinR (x := w) pl.typeIs slot_tuple_getitem.lookup
    (getItem_tuple (j := j) (Q := fun r s' => r = w ∧ EP X pins σ Q r s') pl (by omega) (by omega) (by rw [List.size_toArray, ← hl]; exact h1) (by simpa using ew) ⟨rfl, fin⟩) hs
/-! ### xs[i] = v, any sign -/
/-! ### slices -/
theorem slice_bounds (lo hi : Option Int) (n : Nat) : (sliceBounds lo hi none n).1 = ((HT.sIx n 0 lo : Nat) : Int) ∧ (sliceBounds lo hi none n).2.1 = ((HT.sIx n n hi : Nat) : Int) ∧ (sliceBounds lo hi none n).2.2 = 1 := by
  refine ⟨?_, ?_, rfl⟩
  · cases lo with
    | none => simp [sliceBounds, HT.sIx]
    | some i =>
      simp only [sliceBounds, HT.sIx, Option.getD_none, show (1 : Int) > 0 by decide, if_true]
      by_cases h : i < 0
      · simp only [h, if_true] <;> omega
      · simp only [h, if_false] <;> omega
  · cases hi with
    | none => simp [sliceBounds, HT.sIx]
    | some i =>
      simp only [sliceBounds, HT.sIx, Option.getD_none, show (1 : Int) > 0 by decide, if_true]
      by_cases h : i < 0
      · simp only [h, if_true] <;> omega
      · simp only [h, if_false] <;> omega
theorem slicePick_cut (its : List Value) (lo hi : Option Int) : slicePick its.toArray lo hi none = ((its.drop (HT.sIx its.length 0 lo)).take (HT.sIx its.length its.length hi - HT.sIx its.length 0 lo)).toArray := by
  obtain ⟨h1, h2, h3⟩ := slice_bounds lo hi its.toArray.size
  unfold slicePick
  rw [h1, h2, h3]
  simp only [sliceRange_one, pick_run, List.size_toArray] <;> rfl
/-- xs[lo:hi] of a list: a new list -/
def rSlL (K : PySem.W.Frag) : V → Option Int → Option Int → Hp → VK → Prop := fun x lo hi H Q => ∃ a xs, x = .ref a ∧ SqL K H a xs ∧ ∀ p, H p = none → Q (.ref p) (upd H p (.lst (cutV xs lo hi)))
theorem sl_list : SlR X (rSlL X.K) := by
  intro pins s σ H x v vl vu lo hi sl Q I rx hs pl pu h
  obtain ⟨a, xs, rfl, hx, q⟩ := h
  cases rx
  obtain ⟨its, r, ht, hz⟩ := I.list hx
  have hlen := r.length
  refine ⟨"list", _, slot_list_getitem.lookup, ht.isList.typeIs, ?_⟩
  refine wpAny_getItem_list_slice ht.isList hs pl pu .none (by simp) ?_ (by rw [List.size_toArray] <;> omega)
  rw [slicePick_cut, ← hlen]
  refine ⟨.ref s.heap.objs.size, _, I.laid (t' := s.toks) (o := .lst (cutV xs lo hi)) (fun b ob q => Heap.get?_push_of_some _ q) (Nat.le_refl _) ?_, rfl, q _ (I.hok.fresh (Nat.le_refl _))⟩
  exact ⟨Nat.le_trans (cutV_length xs lo hi) hz, _, 0, (r.drop (HT.sIx xs.length 0 lo)).take (HT.sIx xs.length xs.length hi - HT.sIx xs.length 0 lo), Heap.get?_push_size _ rfl⟩

/-! ### in, not in: flat items -/
def flatV : V → Bool
  | .non => true
  | .bl _ => true
  | .int _ => true
  | .str _ => true
  | _ => false
/-- == of flat values -/
def eqV : V → V → Bool
  | .non, .non => true
  | .bl a, .bl b => a == b
  | .bl a, .int b => (if a then 1 else 0) == b
  | .int a, .bl b => a == (if b then 1 else 0)
  | .int a, .int b => a == b
  | .str a, .str b => a == b
  | _, _ => false
theorem eqAt_V {A : Around} {s : Shared} {y x : V} {u v : Value} (ry : RelV y u) (rx : RelV x v) (fy : flatV y = true) (fx : flatV x = true) : SeqAt.EqAt A s u v (eqV y x) := by
  cases y with
  | non =>
    cases ry
    cases x with
    | non => cases rx; exact SeqAt.EqAt.same _
    | bl b => cases rx; exact SeqAt.EqAt.none_bool b
    | int b => obtain ⟨t, rfl⟩ := rx; exact SeqAt.EqAt.none_int b t
    | str b => obtain ⟨t, rfl⟩ := rx; exact SeqAt.EqAt.none_str b t
    | _ => exact absurd (show false = true from fx) Bool.false_ne_true
  | bl a =>
    cases ry
    cases x with
    | non => cases rx; exact SeqAt.EqAt.bool_none a
    | bl b => cases rx; exact SeqAt.EqAt.bool_bool a b
    | int b => obtain ⟨t, rfl⟩ := rx; exact SeqAt.EqAt.bool_int a b t
    | str b => obtain ⟨t, rfl⟩ := rx; exact SeqAt.EqAt.bool_str a b t
    | _ => exact absurd (show false = true from fx) Bool.false_ne_true
  | int a =>
    obtain ⟨t', rfl⟩ := ry
    cases x with
    | non => cases rx; exact SeqAt.EqAt.int_none a t'
    | bl b => cases rx; exact SeqAt.EqAt.int_bool a t' b
    | int b => obtain ⟨t, rfl⟩ := rx; exact SeqAt.EqAt.int_int a t' b t
    | str b => obtain ⟨t, rfl⟩ := rx; exact SeqAt.EqAt.int_str a t' b t
    | _ => exact absurd (show false = true from fx) Bool.false_ne_true
  | str a =>
    obtain ⟨t', rfl⟩ := ry
    cases x with
    | non => cases rx; exact SeqAt.EqAt.str_none a t'
    | bl b => cases rx; exact SeqAt.EqAt.str_bool a t' b
    | int b => obtain ⟨t, rfl⟩ := rx; exact SeqAt.EqAt.str_int a t' b t
    | str b => obtain ⟨t, rfl⟩ := rx; exact SeqAt.EqAt.str_str a t' b t
    | _ => exact absurd (show false = true from fx) Bool.false_ne_true
  | _ => exact absurd (show false = true from fy) Bool.false_ne_true
/-- the items' answers, read off the values (a value's own answer does not lean on its token) -/
def eqU (x : V) (u : Value) : Bool := match u with
  | .none => eqV .non x
  | .bool b => eqV (.bl b) x
  | .int i _ => eqV (.int i) x
  | .str z _ => eqV (.str z) x
  | _ => false
theorem eqU_of {x y : V} {u : Value} (r : RelV y u) (f : flatV y = true) : eqU x u = eqV y x := by
  cases y with
  | non => cases r; rfl
  | bl b => cases r; rfl
  | int i => obtain ⟨t, rfl⟩ := r; rfl
  | str z => obtain ⟨t, rfl⟩ := r; rfl
  | _ => exact absurd (show false = true from f) Bool.false_ne_true
theorem any_eqU {x : V} : ∀ {xs : List V} {us : List Value}, Vals xs us → xs.all flatV = true → us.any (eqU x) = xs.any fun y => eqV y x
  | _, _, .nil, _ => rfl
  | y :: xs, u :: us, .cons r t, f => by
    rw [List.all_cons, Bool.and_eq_true] at f
    rw [List.any_cons, List.any_cons, eqU_of r f.1, any_eqU t f.2]
theorem mem_eqAt {A : Around} {s : Shared} {x : V} {v : Value} (rx : RelV x v) (fx : flatV x = true) : ∀ {xs : List V} {us : List Value}, Vals xs us → xs.all flatV = true → ∀ u ∈ us, SeqAt.EqAt A s u v (eqU x u)
  | _, _, .nil, _ => fun u hu => by cases hu
  | y :: xs, u :: us, .cons r t, f => fun u' hu => by
    rw [List.all_cons, Bool.and_eq_true] at f
    rcases List.mem_cons.mp hu with rfl | hu
    · rw [eqU_of r f.1]; exact eqAt_V r rx f.1 fx
    · exact mem_eqAt rx fx t f.2 u' hu
def inV (x : V) (xs : List V) : Bool := xs.any fun y => eqV y x
/-- x in a list or tuple of flat items -/
def rIn (K : PySem.W.Frag) (neg : Bool) : R2 := fun x y H Q => ∃ p xs, y = .ref p ∧ (SqL K H p xs ∨ SqT K H p xs) ∧ flatV x = true ∧ xs.all flatV = true ∧ Q (.bl (if neg then !inV x xs else inV x xs)) H
theorem op_in_seq : OpR X (compareOp .In) (rIn X.K false) := by
  intro pins s σ H x y v u Q I rx ry h
  obtain ⟨p, xs, rfl, hq, fx, fs, q⟩ := h
  cases ry
  rcases hq with hq | hq
  · obtain ⟨its, r, pl, hz⟩ := I.list hq
    refine SeqAt.in_listAt (eqU x) pl.isList (fun w hw => mem_eqAt rx fx r fs w (by simpa using hw)) ⟨.bl _, H, I, rfl, ?_⟩
    rw [show its.toArray.any (eqU x) = its.any (eqU x) by simp, any_eqU r fs]
    exact q
  · obtain ⟨its, r, pl, hz⟩ := I.tuple hq
    refine SeqAt.in_tupleAt (eqU x) pl (fun w hw => mem_eqAt rx fx r fs w (by simpa using hw)) ⟨.bl _, H, I, rfl, ?_⟩
    rw [show its.toArray.any (eqU x) = its.any (eqU x) by simp, any_eqU r fs]
    exact q
/-! ### len, list(x), tuple(x) of any list or tuple that is read -/
theorem call_len_seq : CallR X (.builtin "len") (fun xs H Q => ∃ p ys, xs = [.ref p] ∧ (SqL X.K H p ys ∨ SqT X.K H p ys) ∧ Q (.int ys.length) H) := by
  intro pins s σ H xs us Q I r h
  obtain ⟨p, ys, rfl, hq, q⟩ := h
  obtain ⟨u, rfl, rx⟩ := vals1 r
  cases rx
  have hn := line63
  rcases hq with hq | hq
  · obtain ⟨its, r', pl, hz⟩ := I.list hq
    have hlen := r'.length
    exact Calls.call_len_list pl.isList (by simp only [List.size_toArray] <;> omega) ⟨.int ys.length, H, I.tok _, ⟨s.toks + 1, by rw [List.size_toArray, hlen]⟩, q⟩
  · obtain ⟨its, r', pl, hz⟩ := I.tuple hq
    have hlen := r'.length
    exact len_tuple pl (by simp only [List.size_toArray] <;> omega) ⟨.int ys.length, H, I.tok _, ⟨s.toks + 1, by rw [List.size_toArray, hlen]⟩, q⟩
/-! ### the call of a builtin's method: o.m(..) -/
/-- the value is of that builtin type -/
def tyV (K : PySem.W.Frag) (T : String) (x : V) (H : Hp) : Prop := match x with
  | .str _ => T = "str"
  | .int _ => T = "int"
  | .ref p => (T = "list" ∧ ∃ xs, SqL K H p xs) ∨ (T = "tuple" ∧ ∃ o, K.lookup p = some o ∧ o.cls = .type "tuple" ∧ o.dict = none) ∨
      (T = "dict" ∧ ((∃ kvs, H p = some (.dK kvs)) ∨ ∃ kvs, H p = some (.dT kvs))) ∨ (T = "set" ∧ ∃ S n, H p = some (.set S n))
  | _ => False
theorem tyV_is {pins : List (Addr × Obj)} {σ : St} {H : Hp} {s : Shared} {T : String} {x : V} {v : Value} (I : Inv X pins σ H s) (r : RelV x v) (ty : tyV X.K T x H) :
    s.TypeIs v T ∧ ∀ a, v = .ref a → ∃ ob, s.heap.get? a = some ob ∧ ob.dict = none := by
  cases x with
  | str z =>
    obtain ⟨t, rfl⟩ := r
    cases (show T = "str" from ty)
    exact ⟨typeIs_str s z t, fun _ e => nomatch e⟩
  | int i =>
    obtain ⟨t, rfl⟩ := r
    cases (show T = "int" from ty)
    exact ⟨typeIs_int s i t, fun _ e => nomatch e⟩
  | ref p =>
    cases r
    rcases ty with ⟨rfl, xs, hq⟩ | ⟨rfl, o, hk, hc, hd⟩ | ⟨rfl, hk⟩ | ⟨rfl, S, n, hk⟩
    · obtain ⟨its, _, pl, _⟩ := I.list hq
      refine ⟨pl.isList.typeIs, fun a e => ?_⟩
      cases e
      obtain ⟨o, n, e, c, hd, _⟩ := pl
      exact ⟨o, e, hd⟩
    · refine ⟨⟨o, I.kIn p o hk, hc⟩, fun a e => ?_⟩
      cases e
      exact ⟨o, I.kIn _ o hk, hd⟩
    · have z : ∃ o, s.heap.get? p = some o ∧ o.ExactDict := by
        rcases hk with ⟨kvs, hk⟩ | ⟨kvs, hk⟩
        · obtain ⟨_, _, _, _, o, _, _, e, ex, _⟩ := I.hok p _ hk
          exact ⟨o, e, ex⟩
        · obtain ⟨_, _, _, _, o, _, _, e, ex, _⟩ := I.hok p _ hk
          exact ⟨o, e, ex⟩
      obtain ⟨o, e, ex⟩ := z
      refine ⟨⟨o, e, ex.1⟩, fun a e2 => ?_⟩
      cases e2
      exact ⟨o, e, ex.2.1⟩
    · obtain ⟨o, _, _, _, e, ex, _⟩ := I.hok p _ hk
      refine ⟨⟨o, e, ex.1⟩, fun a e2 => ?_⟩
      cases e2
      exact ⟨o, e, ex.2.1⟩
  | _ => exact False.elim ty
def tBM (K : PySem.W.Frag) (T : String) (r : V → List V → Hp → VK → Prop) (to : TE) (t : TA) : TE := fun σ H Q => to σ H fun x H1 => tyV K T x H1 ∧ t σ H1 fun xs H2 => r x xs H2 Q
variable {o e : Expr} {es : List Expr} {to : TE} {t : TA} {name : Str} {apos cpos : Pos} {T id : String} {r : V → List V → Hp → VK → Prop}
theorem pe_bm (pa : PlainAttrs T) (slot : Slot T name id) (hty : typeOf (.builtin id) = pure (.type "method_descriptor")) (hm : MtR X id r) (ho : PE X o to) (ha : PA X (e :: es) t)
    (hbase : attributeBase o name X.env (eval o X.env) = eval o X.env := by rfl)
    (hfew : ((backTo cpos (starEach (e :: es) X.env)).all (fun x => !x.1) && (backToKw cpos (keywordEach [] X.env)).all (fun x => x.1.isSome)
      && decide ((e :: es).length + ([] : List Keyword).length + (if ([] : List Keyword).isEmpty then 0 else 1) < 30)) = true := by rfl)
    (hline : (apos.endLine == cpos.line) = true := by rfl) (hs : starEach (e :: es) X.env = (false, eval e X.env) :: starEach es X.env := by rfl) (hplain : (backTo cpos (starEach es X.env)).any (·.1) = false := by rfl) :
    PE X (.Call (.Attribute o name apos) (e :: es) [] cpos) (tBM X.K T r to t) := by
  intro pins s σ H Q I h
  refine wpAny_Call_method_late hbase hfew hline rfl (thn (ho pins s σ H _ I h) fun v s1 ⟨x, H1, I1, r1, ty, q1⟩ => ?_)
  obtain ⟨h1, h2⟩ := tyV_is I1 r1 ty
  refine ⟨T, id, pa, slot, hty, h1, h2, ?_⟩
  have hA := ha cpos pins s1 σ H1 _ I1 q1
  rw [hs] at hA ⊢
  refine Calls.callWith_builtin (by show (false || (backTo cpos (starEach es X.env)).any (·.1)) = false; rw [hplain] <;> rfl) (Calls.evalArgs_plain ?_)
  exact thn hA fun us s2 ⟨vs, H2, I2, r2, q2⟩ => hm pins s2 σ H2 x vs v us Q I2 r1 r2 q2
/- xs.append(e), list.index on a module's tuple .. are MtR facts of 06m -/
end
end L2

namespace L2
open PySem PySem.Spec PyProof.Rows

def MtM (X : Cx) (id : String) (r : V → List V → Hp → VK → Prop) : Prop :=
  ∀ (pins : List (Addr × Obj)) (s : Shared) (σ : St) (H : Hp) (x : V) (xs : List V) (v : Value) (us : List Value) (Q : VK), Inv X pins σ H s → RelV x v → Vals xs us → r x xs H Q →
    wpAny (model X.prog X.w) X.A (call (.builtin id) (v :: us)) (EP X pins σ Q) X.xe s

/-! ### lists of values -/
theorem Vals.one : ∀ {x : V} {us : List Value}, Vals [x] us → ∃ u, us = [u] ∧ RelV x u
  | _, _, .cons r .nil => ⟨_, rfl, r⟩
section
variable {X : Cx} {pins : List (Addr × Obj)} {σ : St} {H : Hp} {s : Shared} {l b : Addr} {xs ys zs : List V}

/-! ### the two steps: a tracked list is rewritten, a new list is laid -/
theorem Inv.lset {its its' : List Value} {n : Nat} {f : Array Value → Array Value} {t' : Nat} (I : Inv X pins σ H s) (hH : H l = some (.lst xs))
    (e : s.heap.get? l = some { cls := .type "list", data := .seq its.toArray n }) (hf : f its.toArray = its'.toArray) (hv : Vals ys its') (hz : ys.length ≤ sizeLine) :
    Inv X pins σ (upd H l (.lst ys)) { s with heap := s.heap.update l (Obj.mapSeq f), toks := t' } := by
  have q := PySem.IsL.update e f
  rw [hf] at q
  refine I.write (x := l) (e := l) (by rw [hH]; exact trivial) (.inl rfl) (fun b' u hb hu => (Heap.get?_update_other s.heap (Obj.mapSeq f) (Ne.symm hb)).trans hu) ⟨_, q⟩ ?_
  exact ⟨hz, its', _, hv, q⟩
theorem Inv.lnew {its : List Value} {t' : Nat} (I : Inv X pins σ H s) (hv : Vals ys its) (hz : ys.length ≤ sizeLine) :
    Inv X pins σ (upd H s.heap.objs.size (.lst ys)) { s with heap := s.heap.push { cls := .type "list", data := .seq its.toArray }, toks := t' } :=
  I.laid (fun _ _ q => Heap.get?_push_of_some _ q) (Nat.le_refl _) ⟨hz, its, 0, hv, Heap.get?_push_size _ rfl⟩
theorem Inv.fresh (I : Inv X pins σ H s) : H s.heap.objs.size = none := I.hok.fresh (Nat.le_refl _)
theorem Inv.lstM (I : Inv X pins σ H s) (hH : H l = some (.lst xs)) : xs.length ≤ sizeLine ∧ ∃ (its : List Value) (n : Nat), Vals xs its ∧ xs.length = its.length ∧ s.heap.get? l = some { cls := .type "list", data := .seq its.toArray n } := by
  obtain ⟨z, its, n, r, e⟩ := I.hok l _ hH
  exact ⟨z, its, n, r, r.length, e⟩

theorem notLongL {n : Nat} (h : n ≤ sizeLine) : Builtin.List.listTooLong n = false := by
  unfold Builtin.List.listTooLong
  exact decide_eq_false (by omega)
end

section
variable {X : Cx}

/-! ### methods -/
def rAppend : V → List V → Hp → VK → Prop := fun x vs H Q => ∃ l xs y, x = .ref l ∧ vs = [y] ∧ H l = some (.lst xs) ∧ xs.length < sizeLine ∧ Q .non (upd H l (.lst (xs ++ [y])))
theorem mt_append : MtM X "list.append" rAppend := by
  intro pins s σ H x vs v us Q I rx rv h
  obtain ⟨l, xs, y, rfl, rfl, hH, hz, q⟩ := h
  cases rx
  obtain ⟨u, rfl, ru⟩ := rv.one
  obtain ⟨z, its, n, r, hl, e⟩ := I.lstM hH
  refine call_meets F.slot_list_append ⟨_, e, rfl⟩ F.entry_list_append (F.args_list_append_2 _ _) (PySem.list_append l its.toArray n u (by rw [List.size_toArray]; omega)) ⟨e, ?_⟩
  refine ⟨.non, _, I.lset (its' := its ++ [u]) hH e (by simp) (r.append (.cons ru .nil)) ?_, rfl, q⟩
  rw [List.length_append, List.length_singleton]
  omega

def rExtend : V → List V → Hp → VK → Prop := fun x vs H Q => ∃ l b xs zs, x = .ref l ∧ vs = [.ref b] ∧ H l = some (.lst xs) ∧ H b = some (.lst zs) ∧ xs.length + zs.length ≤ sizeLine ∧ Q .non (upd H l (.lst (xs ++ zs)))
theorem mt_extend : MtM X "list.extend" rExtend := by
  intro pins s σ H x vs v us Q I rx rv h
  obtain ⟨l, b, xs, zs, rfl, rfl, hH, hB, hz, q⟩ := h
  cases rx
  obtain ⟨u, rfl, ru⟩ := rv.one
  cases ru
  obtain ⟨z, its, n, r, hl, e⟩ := I.lstM hH
  obtain ⟨z2, its2, n2, r2, hl2, e2⟩ := I.lstM hB
  have hsz : its.toArray.size + its2.toArray.size ≤ sizeLine := by rw [List.size_toArray, List.size_toArray]; omega
  have hlong : ¬ (!its.toArray.isEmpty && Builtin.List.listTooLong (its.toArray.size + its2.toArray.size)) = true := by
    rw [notLongL hsz, Bool.and_false]
    exact Bool.false_ne_true
  refine call_meets F.slot_list_extend ⟨_, e, rfl⟩ F.entry_list_extend (F.args_list_extend_2 _ _)
    (AutoSeq1.list_extend_list_list_0 l its.toArray n b its2.toArray n2 hlong (by rw [List.size_toArray]; omega) (by omega)) ⟨e, e2, ?_⟩
  refine ⟨.non, _, I.lset (its' := its ++ its2) hH e (by simp) (r.append r2) ?_, rfl, q⟩
  rw [List.length_append]
  omega

/-! ### list + list, list += list, list * int -/
def rCat : R2 := fun x y H Q => ∃ l b xs zs, x = .ref l ∧ y = .ref b ∧ H l = some (.lst xs) ∧ H b = some (.lst zs) ∧ xs.length + zs.length ≤ sizeLine ∧ ∀ p, H p = none → Q (.ref p) (upd H p (.lst (xs ++ zs)))
theorem op_cat : OpR X (binaryOp .Add) rCat := by
  intro pins s σ H x y v u Q I rx ry h
  obtain ⟨l, b, xs, zs, rfl, rfl, hH, hB, hz, q⟩ := h
  cases rx
  cases ry
  obtain ⟨z, its, n, r, hl, e⟩ := I.lstM hH
  obtain ⟨z2, its2, n2, r2, hl2, e2⟩ := I.lstM hB
  refine PySem.P.add_list e e2 ?_ (by rw [List.size_toArray, List.size_toArray]; omega)
  have ea : its.toArray ++ its2.toArray = (its ++ its2).toArray := by simp
  rw [ea]
  exact ⟨.ref _, _, I.lnew (t' := s.toks) (r.append r2) (by rw [List.length_append]; omega), rfl, q _ I.fresh⟩
/-! ### del xs[i] -/
end

/-! ### xs[a:b] = ys -/
section
variable {prog : Program} {w : World} {A : Around} {E : Value → Shared → Prop} {s : Shared}
set_option maxRecDepth 100000 in
end

section
variable {X : Cx}
end
end L2

namespace L2
open PySem PySem.Spec PyProof.Rows

theorem Vals.ints : ∀ {ns : List Int} {us : List Value}, Vals (ns.map V.int) us → IntsAre us ns
  | [], us, h => by
    rw [List.map_nil] at h
    cases h
    exact IntsAre.nil
  | n :: ns, us, h => by
    rw [List.map_cons] at h
    cases h with
    | cons r t =>
      obtain ⟨k, rfl⟩ := r
      exact IntsAre.cons n k (Vals.ints t)
theorem Vals.ref1 {a : Addr} {us : List Value} (r : Vals [V.ref a] us) : us = [Value.ref a] := by
  cases r with
  | cons r t =>
    cases t
    cases r
    rfl
/-! ### the library's walks over a list of ints, kept objects alone -/
section
variable {prog : Program} {w : World} {A : Around} {E : Value → Shared → Prop} {s : Shared} {l : Addr} {its : List Value} {ns : List Int} {Q : Value → Shared → Prop}
theorem max_raw (hh : A.handled = none) (hl : s.heap.IsList l its.toArray) (hi : IntsAre its ns) (hne : 0 < ns.length)
    (h : ∀ h' tk M t', (∀ b o, s.heap.get? b = some o → h'.get? b = some o) → M ∈ ns → (∀ a, a ∈ ns → a ≤ M) → Q (.int M t') { s with heap := h', toks := tk }) : wpAny (model prog w) A (call (.builtin "max") [.ref l]) Q E s := by
  obtain ⟨xs, e⟩ := hi.allInts.items
  have hn : numsOf (intItems xs).toList = ns := by rw [← e]; exact hi.numsOf
  rw [nums_intItems] at hn
  subst hn
  rw [e] at hl
  have hsz : 0 < xs.size := by simpa using hne
  refine PySem.max_intList hh hl hsz fun v h' tk hv hk => ?_
  obtain ⟨t, rfl⟩ := intItems_at hv
  obtain ⟨h1, h2⟩ := argBest_gt (numAt xs) (xs.size - 1)
  refine h h' tk _ t hk ?_ fun a ha => ?_
  · rw [numAt_eq]; exact PySem.getD_mem (by rw [List.length_map, Array.length_toList]; omega)
  · obtain ⟨j, hj, rfl⟩ := mem_getD ha
    rw [List.length_map, Array.length_toList] at hj
    rw [← numAt_eq]; exact h2 j (by omega)
theorem min_raw (hh : A.handled = none) (hl : s.heap.IsList l its.toArray) (hi : IntsAre its ns) (hne : 0 < ns.length)
    (h : ∀ h' tk M t', (∀ b o, s.heap.get? b = some o → h'.get? b = some o) → M ∈ ns → (∀ a, a ∈ ns → M ≤ a) → Q (.int M t') { s with heap := h', toks := tk }) : wpAny (model prog w) A (call (.builtin "min") [.ref l]) Q E s := by
  obtain ⟨xs, e⟩ := hi.allInts.items
  have hn : numsOf (intItems xs).toList = ns := by rw [← e]; exact hi.numsOf
  rw [nums_intItems] at hn
  subst hn
  rw [e] at hl
  have hsz : 0 < xs.size := by simpa using hne
  refine PySem.min_intList hh hl hsz fun v h' tk hv hk => ?_
  obtain ⟨t, rfl⟩ := intItems_at hv
  obtain ⟨h1, h2⟩ := argBest_lt (numAt xs) (xs.size - 1)
  refine h h' tk _ t hk ?_ fun a ha => ?_
  · rw [numAt_eq]; exact PySem.getD_mem (by rw [List.length_map, Array.length_toList]; omega)
  · obtain ⟨j, hj, rfl⟩ := mem_getD ha
    rw [List.length_map, Array.length_toList] at hj
    rw [← numAt_eq]; exact h2 j (by omega)
end

/-! ### the calls, by values (CallR of 03t; MtR of 06l) -/
section
variable {X : Cx}
/-- max(xs), min(xs) of a list of ints -/
def rMax (K : PySem.W.Frag) : List V → Hp → VK → Prop := fun vs H Q => ∃ (a : Addr) (ns : List Int), vs = [V.ref a] ∧ SqL K H a (ns.map V.int) ∧ 0 < ns.length ∧ ∀ m, m ∈ ns → (∀ y, y ∈ ns → y ≤ m) → Q (.int m) H
def rMin (K : PySem.W.Frag) : List V → Hp → VK → Prop := fun vs H Q => ∃ (a : Addr) (ns : List Int), vs = [V.ref a] ∧ SqL K H a (ns.map V.int) ∧ 0 < ns.length ∧ ∀ m, m ∈ ns → (∀ y, y ∈ ns → m ≤ y) → Q (.int m) H
theorem cr_max (hc : X.calm = true) : CallR X (.builtin "max") (rMax X.K) := by
  intro pins s σ H vs us Q I r h
  obtain ⟨a, ns, rfl, hs, hne, q⟩ := h
  obtain ⟨its, rv, hl, _⟩ := I.list hs
  rw [Vals.ref1 r]
  exact max_raw (I.ok.hd hc) hl.isList rv.ints hne fun h' tk m t' hk h1 h2 => ⟨.int _, H, I.kept hk, ⟨_, rfl⟩, q m h1 h2⟩
theorem cr_min (hc : X.calm = true) : CallR X (.builtin "min") (rMin X.K) := by
  intro pins s σ H vs us Q I r h
  obtain ⟨a, ns, rfl, hs, hne, q⟩ := h
  obtain ⟨its, rv, hl, _⟩ := I.list hs
  rw [Vals.ref1 r]
  exact min_raw (I.ok.hd hc) hl.isList rv.ints hne fun h' tk m t' hk h1 h2 => ⟨.int _, H, I.kept hk, ⟨_, rfl⟩, q m h1 h2⟩

/-! sorted, sort (fewer than 64 items: the library's own bound) -/
end

/-! ### list.index, flat items -/
section
variable {X : Cx}
end

/-! ### type(x) of an own instance; is, is not of a module's class -/
section
variable {X : Cx}
end

/-! ### any(xs), all(xs) of a list of bools -/
section
variable {X : Cx}
end

/-! ### == and != of data at any depth: none, bools, ints, texts, lists, tuples -/
mutual
inductive Dp (K : PySem.W.Frag) (H : Hp) : V → PyData → Prop
  | non : Dp K H .non .none
  | bl (b : Bool) : Dp K H (.bl b) (.bool b)
  | int (i : Int) : Dp K H (.int i) (.int i)
  | str (x : Str) : Dp K H (.str x) (.str x)
  | lst {a : Addr} {xs : List V} {ds : List PyData} : SqL K H a xs → DpAll K H xs ds → Dp K H (.ref a) (.list ds)
  | tup {a : Addr} {xs : List V} {ds : List PyData} : SqT K H a xs → DpAll K H xs ds → Dp K H (.ref a) (.tuple ds)
inductive DpAll (K : PySem.W.Frag) (H : Hp) : List V → List PyData → Prop
  | nil : DpAll K H [] []
  | cons {v : V} {vs : List V} {d : PyData} {ds : List PyData} : Dp K H v d → DpAll K H vs ds → DpAll K H (v :: vs) (d :: ds)
end
section
variable {X : Cx} {pins : List (Addr × Obj)} {σ : St} {H : Hp} {s : Shared}
--
end
section
variable {X : Cx}
end
end L2

namespace L2
open PySem PySem.Spec PyProof.Rows
abbrev CellAt (h : Heap) (c : Addr) (v : Option Value) : Prop := h.IsCell c v
def relS (scope sc : Scope) : Scope :=
  { scope with names := scope.names.map fun (n, k) => if (k == .free && sc.kind == .function && sc.names.lookup n == some .cell) then (n, .cell) else (n, k) }

def cloFrom (cells : List (Str × Addr)) : List (Str × NameKind) → List (Str × Addr) → List (Str × Addr)
  | [], acc => acc
  | (n, k) :: r, acc => if k == .free then cloFrom cells r ((n, (cells.lookup n).getD 0) :: acc) else cloFrom cells r acc

theorem closure_loop (env : Env) (f : Str × NameKind → List (Str × Addr) → Sem (ForInStep (List (Str × Addr))))
    (hf : ∀ n k c, f (n, k) c = if k == .free then (do let a ← cellOf env n; pure (.yield ((n, a) :: c))) else pure (.yield c)) :
    ∀ (names : List (Str × NameKind)) (acc : List (Str × Addr)), (∀ y ∈ names, y.2 = .free → ∃ c, env.cells.lookup y.1 = some c) → forIn names acc f = pure (cloFrom env.cells names acc)
  | [], acc, _ => by rw [List.forIn_nil]; rfl
  | (n, k) :: r, acc, h => by
    rw [List.forIn_cons, hf]
    have ih := fun acc => closure_loop env f hf r acc fun y hy => h y (List.mem_cons_of_mem _ hy)
    unfold cloFrom
    by_cases hk : (k == NameKind.free) = true
    · rw [if_pos hk, if_pos hk]
      obtain ⟨c, hc⟩ := h (n, k) List.mem_cons_self (by simpa using hk)
      have e : cellOf env n = pure c := by unfold cellOf; rw [hc]
      rw [e]
      have e2 : (env.cells.lookup n).getD 0 = c := by rw [hc]; rfl
      rw [e2]
      exact ih _
    · rw [if_neg hk, if_neg hk]
      exact ih _
theorem closure_ok {scope : Scope} {env : Env} (h : ∀ y ∈ scope.names, y.2 = .free → ∃ c, env.cells.lookup y.1 = some c) : closureFor scope env = pure (cloFrom env.cells scope.names []) := by
  simp only [closureFor]
  rw [closure_loop env _ (fun n k c => rfl) scope.names [] h]
  rfl

theorem mem_lookup {α : Type} : ∀ {l : List (Str × α)} {n : Str} {c : α}, (n, c) ∈ l → ∃ c', l.lookup n = some c'
  | (k, v) :: r, n, c, h => by
    rw [List.lookup_cons]
    cases hb : n == k with
    | true => exact ⟨_, rfl⟩
    | false =>
      rcases List.mem_cons.mp h with e | h
      · cases e; simp at hb
      · exact mem_lookup h

theorem cloFrom_mem {cells : List (Str × Addr)} : ∀ {names : List (Str × NameKind)} {acc : List (Str × Addr)} {n : Str} {c : Addr}, (n, c) ∈ cloFrom cells names acc → (n, c) ∈ acc ∨ ((n, .free) ∈ names ∧ c = (cells.lookup n).getD 0)
  | [], _, _, _, h => .inl h
  | (m, k) :: r, acc, n, c, h => by
    unfold cloFrom at h
    split at h
    · rename_i hk
      have hk : k = .free := by simpa using hk
      rcases cloFrom_mem h with h | ⟨h1, h2⟩
      · rcases List.mem_cons.mp h with e | h
        · cases e; exact .inr ⟨hk ▸ List.mem_cons_self, rfl⟩
        · exact .inl h
      · exact .inr ⟨List.mem_cons_of_mem _ h1, h2⟩
    · rcases cloFrom_mem h with h | ⟨h1, h2⟩
      · exact .inl h
      · exact .inr ⟨List.mem_cons_of_mem _ h1, h2⟩
theorem cloFrom_acc {cells : List (Str × Addr)} : ∀ {names : List (Str × NameKind)} {acc : List (Str × Addr)} {p : Str × Addr}, p ∈ acc → p ∈ cloFrom cells names acc
  | [], _, _, h => h
  | (m, k) :: r, acc, p, h => by
    unfold cloFrom
    split
    · exact cloFrom_acc (List.mem_cons_of_mem _ h)
    · exact cloFrom_acc h
theorem cloFrom_has {cells : List (Str × Addr)} : ∀ {names : List (Str × NameKind)} {acc : List (Str × Addr)} {n : Str}, (n, .free) ∈ names → (n, (cells.lookup n).getD 0) ∈ cloFrom cells names acc
  | (m, k) :: r, acc, n, h => by
    unfold cloFrom
    rcases List.mem_cons.mp h with e | h
    · cases e
      exact cloFrom_acc List.mem_cons_self
    · split
      · exact cloFrom_has h
      · exact cloFrom_has h

theorem cells_mem : ∀ {names : List (Str × NameKind)} {h : Heap} {acc : List (Str × Addr)} {x : Str} {c : Addr}, (x, c) ∈ cellsFrom h.objs.size names acc →
    (x, c) ∈ acc ∨ ((x, .cell) ∈ names ∧ h.objs.size ≤ c ∧ CellAt (pushCells h names) c none)
  | [], _, _, _, _, h => .inl h
  | (n, k) :: r, h, acc, x, c, hm => by
    unfold cellsFrom at hm
    unfold pushCells
    split at hm
    · rename_i hk
      rw [if_pos hk]
      have hk : k = .cell := by simpa using hk
      rw [← Heap.size_push h { cls := .type "cell", data := .cell none }] at hm
      rcases cells_mem hm with hm | ⟨h1, h2, h3⟩
      · rcases List.mem_cons.mp hm with e | hm
        · cases e
          exact .inr ⟨hk ▸ List.mem_cons_self, Nat.le_refl _, _, pushCells_keeps r _ _ _ (Heap.get?_push_size _ rfl), rfl⟩
        · exact .inl hm
      · rw [Heap.size_push] at h2
        exact .inr ⟨List.mem_cons_of_mem _ h1, Nat.le_of_succ_le h2, h3⟩
    · rename_i hk
      rw [if_neg hk]
      rcases cells_mem hm with hm | ⟨h1, h2, h3⟩
      · exact .inl hm
      · exact .inr ⟨List.mem_cons_of_mem _ h1, h2, h3⟩
theorem cells_acc : ∀ {names : List (Str × NameKind)} {n : Nat} {acc : List (Str × Addr)} {p : Str × Addr}, p ∈ acc → p ∈ cellsFrom n names acc
  | [], _, _, _, h => h
  | (m, k) :: r, n, acc, p, h => by
    unfold cellsFrom
    split
    · exact cells_acc (List.mem_cons_of_mem _ h)
    · exact cells_acc h
theorem cells_has : ∀ {names : List (Str × NameKind)} {n : Nat} {acc : List (Str × Addr)} {x : Str}, (x, .cell) ∈ names → ∃ c, (x, c) ∈ cellsFrom n names acc
  | (m, k) :: r, n, acc, x, h => by
    unfold cellsFrom
    rcases List.mem_cons.mp h with e | h
    · cases e
      exact ⟨n, cells_acc List.mem_cons_self⟩
    · split
      · exact cells_has h
      · exact cells_has h
theorem cells_inj : ∀ {names : List (Str × NameKind)} {h : Heap} {acc : List (Str × Addr)} {x y : Str} {c : Addr}, (∀ p ∈ acc, p.2 < h.objs.size) → (∀ x y c, (x, c) ∈ acc → (y, c) ∈ acc → x = y) →
    (x, c) ∈ cellsFrom h.objs.size names acc → (y, c) ∈ cellsFrom h.objs.size names acc → x = y
  | [], _, _, _, _, _, _, hi, h1, h2 => hi _ _ _ h1 h2
  | (n, k) :: r, h, acc, x, y, c, hl, hi, h1, h2 => by
    unfold cellsFrom at h1 h2
    split at h1
    · rename_i hk
      rw [if_pos hk] at h2
      rw [← Heap.size_push h { cls := .type "cell", data := .cell none }] at h1 h2
      refine cells_inj (h := h.push _) (fun p hp => ?_) (fun x y c a b => ?_) h1 h2
      · rw [Heap.size_push]
        rcases List.mem_cons.mp hp with rfl | hp
        · exact Nat.lt_succ_self _
        · exact Nat.lt_succ_of_lt (hl p hp)
      · rcases List.mem_cons.mp a with e | a <;> rcases List.mem_cons.mp b with e' | b
        · cases e; cases e'; rfl
        · cases e; exact absurd (hl _ b) (Nat.lt_irrefl _)
        · cases e'; exact absurd (hl _ a) (Nat.lt_irrefl _)
        · exact hi _ _ _ a b
    · rename_i hk
      rw [if_neg hk] at h2
      exact cells_inj hl hi h1 h2

theorem newEnv_comp {M : Model} {A : Around} {E : Value → Shared → Prop} {s : Shared} {scope : Scope} {globals : Addr} {closure : List (Str × Addr)} {qual : Str} {func : Option Addr} {code : Value} {around : Env} {builtins : Addr} {Q : Env → Shared → Prop}
    (h : Q (newEnv scope s.heap.objs.size globals (cellsFrom (s.heap.objs.size + 1) scope.names closure) qual func code (some around) builtins)
      { s with heap := pushCells (s.heap.push { cls := .type "dict", data := .dict #[] }) scope.names }) :
    wpAny M A (newFunctionEnv scope globals closure [] qual func code (some around) builtins) Q E s := by
  simp only [newFunctionEnv, Option.isSome_some, if_true]
  refine wpAny_bind (wpAny_alloc ?_)
  refine wpAny_bind (wpAny_layCells _ (fun n k c => rfl) scope.names closure _ _ ?_)
  rw [show ({ s with heap := s.heap.push { cls := .type "dict", data := .dict #[] } } : Shared).heap.objs.size = s.heap.objs.size + 1 from Heap.size_push ..]
  rw [List.forIn_nil]
  exact wpAny_bind (wpAny_pure (wpAny_pure h))

/-- every name of the written scope, in the scope that runs -/
theorem lookup_relS {sc : Scope} : ∀ {names : List (Str × NameKind)} {x : Str} {k : NameKind},
    (names.map fun (n, k) => if (k == NameKind.free && sc.kind == .function && sc.names.lookup n == some .cell) then (n, NameKind.cell) else (n, k)).lookup x = some k →
    ∃ k', names.lookup x = some k' ∧ (k = k' ∨ (k' = .free ∧ k = .cell))
  | [], _, _, h => by simp at h
  | (n, k₀) :: r, x, k, h => by
    have ih := @lookup_relS sc r x k
    have h' : List.lookup x ((if (k₀ == NameKind.free && sc.kind == .function && sc.names.lookup n == some .cell) = true then (n, NameKind.cell) else (n, k₀)) :: (r.map _)) = some k := h
    cases hx : x == n with
    | true =>
      simp only [List.lookup_cons, hx]
      by_cases hc : (k₀ == NameKind.free && sc.kind == .function && sc.names.lookup n == some .cell) = true
      · rw [if_pos hc] at h'
        simp only [List.lookup_cons, hx] at h'
        cases h'
        simp only [Bool.and_eq_true, beq_iff_eq] at hc
        exact ⟨k₀, rfl, .inr ⟨hc.1.1, rfl⟩⟩
      · rw [if_neg hc] at h'
        simp only [List.lookup_cons, hx] at h'
        cases h'
        exact ⟨_, rfl, .inl rfl⟩
    | false =>
      simp only [List.lookup_cons, hx]
      by_cases hc : (k₀ == NameKind.free && sc.kind == .function && sc.names.lookup n == some .cell) = true
      · rw [if_pos hc] at h'
        simp only [List.lookup_cons, hx] at h'
        exact ih h'
      · rw [if_neg hc] at h'
        simp only [List.lookup_cons, hx] at h'
        exact ih h'
/-- the names of a comprehension's block: its own (with their places in N), or captured -/
structure BlkOk (N : List Str) (sc scope : Scope) (own : List (Str × Nat)) : Prop where
  kind : scope.kind = .function
  uniq : ∀ y ∈ scope.names, scope.names.lookup y.1 = some y.2
  ix : ∀ p ∈ own, N[p.2]? = some p.1
  free : ∀ y ∈ scope.names, y.2 = .free → sc.names.lookup y.1 = some .cell ∨ sc.names.lookup y.1 = some .free
  own : ∀ y ∈ scope.names, y.2 = .local ∨ y.2 = .cell → y.1 ∈ own.map (·.1) ∨ y.1 ∉ N
/-- the slots of the block's own names forgotten -/
def wipe (σ : St) : List Nat → St
  | [] => σ
  | v :: vs => (wipe σ vs).set v none
theorem wipe_length (σ : St) : ∀ vs : List Nat, (wipe σ vs).length = σ.length
  | [] => rfl
  | v :: vs => by unfold wipe; rw [List.length_set, wipe_length σ vs]
theorem wipe_some {σ : St} {i : Nat} {x : V} : ∀ {vs : List Nat}, (wipe σ vs)[i]? = some (some x) → σ[i]? = some (some x) ∧ i ∉ vs
  | [], h => ⟨h, by simp⟩
  | v :: vs, h => by
    unfold wipe at h
    by_cases hi : v = i
    · subst hi
      by_cases hv : v < (wipe σ vs).length
      · rw [List.getElem?_set_self hv] at h; cases h
      · rw [List.getElem?_eq_none (by simpa using hv)] at h; cases h
    · rw [List.getElem?_set_ne hi] at h
      obtain ⟨h1, h2⟩ := wipe_some h
      exact ⟨h1, by simp only [List.mem_cons, not_or]; exact ⟨fun e => hi e.symm, h2⟩⟩

/-- the context of a block that starts at s, its iterator's objects at fp -/
abbrev Cx.blk (X : Cx) (s : Shared) (H : Hp) (scope : Scope) (cenv : Env) (fp : List Addr) : Cx := { X with s_0 := s, H_0 := H, env := cenv, outer := X.stack, ex := fp, fn := fun x => scope.names.lookup x == some .cell, pn := [], xe := fun _ _ => False }
section
variable {X : Cx} {pins : List (Addr × Obj)} {σ : St} {H : Hp} {s : Shared}
theorem block_start {scope : Scope} {own : List (Str × Nat)} {fp : List Addr} (I : Inv X pins σ H s) (ok : BlkOk X.N X.env.scope scope own) (hN : X.N.Nodup) (hfp : ∀ b ∈ fp, FpOk X pins H b ∧ b < s.heap.objs.size) :
    Inv (X.blk s H scope (compEnvC scope (cellsFrom (s.heap.objs.size + 1) scope.names (cloFrom X.env.cells scope.names [])) s.heap.objs.size X.env) fp) [] (wipe σ (own.map (·.2))) H { s with heap := pushCells (s.heap.push { cls := .type "dict", data := .dict #[] }) scope.names } := by
  have hfree : ∀ y ∈ scope.names, y.2 = .free → ∃ c, X.env.cells.lookup y.1 = some c := fun y hy e => by
    rcases ok.free y hy e with k | k
    · exact I.ok.has _ (.inl k)
    · exact I.ok.has _ (.inr k)
  generalize hcenv : compEnvC scope (cellsFrom (s.heap.objs.size + 1) scope.names (cloFrom X.env.cells scope.names [])) s.heap.objs.size X.env = cenv
  have kp : ∀ b o, s.heap.get? b = some o → (pushCells (s.heap.push { cls := .type "dict", data := .dict #[] }) scope.names).get? b = some o := fun b o e => pushCells_keeps _ _ _ _ (Heap.get?_push_of_some _ e)
  have hL : cenv.locals = s.heap.objs.size := by rw [← hcenv]; rfl
  have hcl : cenv.cells = cellsFrom (s.heap.objs.size + 1) scope.names (cloFrom X.env.cells scope.names []) := by rw [← hcenv]; rfl
  have hsc : cenv.scope = relS scope X.env.scope := by rw [← hcenv]; rfl
  rw [← Heap.size_push s.heap { cls := .type "dict", data := .dict #[] }] at hcl
  have cm : ∀ {y c}, (y, c) ∈ cloFrom X.env.cells scope.names [] → X.env.cells.lookup y = some c ∧ c < s.heap.objs.size := fun {y c} hm => by
    rcases cloFrom_mem hm with hm | ⟨h1, rfl⟩
    · cases hm
    · obtain ⟨c, hc⟩ := hfree _ h1 rfl
      rw [hc]
      obtain ⟨w, z⟩ := I.cell _ _ hc
      exact ⟨rfl, z.lt⟩
  have mem : ∀ {y c}, cenv.cells.lookup y = some c → (X.env.cells.lookup y = some c ∧ c < s.heap.objs.size) ∨ (s.heap.objs.size + 1 ≤ c ∧ CellAt (pushCells (s.heap.push { cls := .type "dict", data := .dict #[] }) scope.names) c none) := fun {y c} e => by
    rw [hcl] at e
    rcases cells_mem (PySem.mem_of_lookup e) with hm | ⟨_, h2, h3⟩
    · exact .inl (cm hm)
    · rw [Heap.size_push] at h2; exact .inr ⟨h2, h3⟩
  have look : ∀ {y}, scope.names.lookup y = some .free → ∃ c, cenv.cells.lookup y = some c ∧ X.env.cells.lookup y = some c := fun {y} hl => by
    have hy : (y, NameKind.free) ∈ scope.names := PySem.mem_of_lookup hl
    obtain ⟨c', e'⟩ := mem_lookup (cells_acc (names := scope.names) (n := (s.heap.push { cls := .type "dict", data := .dict #[] }).objs.size) (cloFrom_has (cells := X.env.cells) (acc := []) hy))
    rw [← hcl] at e'
    refine ⟨c', e', ?_⟩
    rw [hcl] at e'
    rcases cells_mem (PySem.mem_of_lookup e') with hm | ⟨h1, _, _⟩
    · exact (cm hm).1
    · have := ok.uniq _ h1
      rw [hl] at this; cases this
  have okB : (X.blk s H scope cenv fp).Ok := by
    refine ⟨I.ok.mod, by show cenv.scope.kind = _; rw [hsc]; exact ok.kind, by show cenv.globals = _; rw [← hcenv]; exact I.ok.glob, by show cenv.builtins = _; rw [← hcenv]; exact I.ok.blt, by show s.heap.objs.size ≤ cenv.locals; rw [hL]; exact Nat.le_refl _,
      fun y z c e1 e2 => ?_, fun y hy => ?_, fun y c z e => ?_, I.ok.hd, I.ok.frames, .inl rfl, fun b hb => ⟨?_, fun y c e z => ?_⟩, I.bs, Nat.le_trans I.ok.bsz I.sz, fun b o e hb => ?_, fun b hb z => ?_, I.stack, I.stkFree⟩
    · have e1 : cenv.cells.lookup y = some c := e1
      have e2 : cenv.cells.lookup z = some c := e2
      rw [hcl] at e1 e2
      refine cells_inj (fun p hp => ?_) (fun y z c a b => I.ok.inj y z c (cm a).1 (cm b).1) (PySem.mem_of_lookup e1) (PySem.mem_of_lookup e2)
      rw [Heap.size_push]
      exact Nat.lt_succ_of_lt (cm (y := p.1) (c := p.2) hp).2
    · show ∃ c, cenv.cells.lookup y = some c
      have key : ∀ k, cenv.kindOf y = some k → (k = .cell ∨ k = .free) → ∃ c, cenv.cells.lookup y = some c := fun k hk hk' => by
        unfold Env.kindOf at hk
        rw [hsc] at hk
        obtain ⟨k', e, r⟩ := lookup_relS hk
        have : k' = .cell ∨ k' = .free := by
          rcases r with rfl | ⟨rfl, _⟩
          · exact hk'
          · exact .inr rfl
        rcases this with rfl | rfl
        · obtain ⟨c, hm⟩ := cells_has (n := (s.heap.push { cls := .type "dict", data := .dict #[] }).objs.size) (acc := cloFrom X.env.cells scope.names []) (PySem.mem_of_lookup e)
          obtain ⟨c', e'⟩ := mem_lookup hm
          exact ⟨c', by rw [hcl]; exact e'⟩
        · obtain ⟨c, h1, _⟩ := look e
          exact ⟨c, h1⟩
      rcases hy with hy | hy
      · exact key _ hy (.inl rfl)
      · exact key _ hy (.inr rfl)
    · have z : (scope.names.lookup y == some NameKind.cell) = true := z
      have z : scope.names.lookup y = some .cell := by simpa using z
      have e : cenv.cells.lookup y = some c := e
      rw [hcl] at e
      rcases cells_mem (PySem.mem_of_lookup e) with hm | ⟨_, h2, _⟩
      · rcases cloFrom_mem hm with hm | ⟨h1, _⟩
        · cases hm
        · have q := ok.uniq _ h1
          rw [z] at q; cases q
      · rw [Heap.size_push] at h2
        exact Nat.le_of_succ_le h2
    · show b ≠ cenv.locals
      rw [hL]; exact Nat.ne_of_lt (hfp b hb).2
    · have e : cenv.cells.lookup y = some c := e
      rcases mem e with ⟨h1, _⟩ | ⟨h1, _⟩
      · exact (hfp b hb).1.2.2.2.2.1 y c h1 z
      · have h2 : s.heap.objs.size + 1 ≤ b := by rw [← z]; exact h1
        exact absurd (Nat.lt_of_lt_of_le (hfp b hb).2 (Nat.le_of_succ_le h2)) (Nat.lt_irrefl _)
    · rcases (hfp b hb).1.2.2.2.1 with z | z
      · exact I.ok.noex b o e z
      · exact absurd (Nat.lt_of_lt_of_le (Heap.lt_size e) (Nat.le_trans I.ok.bsz z)) (Nat.lt_irrefl _)
    · rcases List.mem_cons.mp (I.stkSub b z) with z | z
      · exact (hfp b hb).1.2.1 z
      · exact (hfp b hb).1.2.2.1 z
  refine ⟨okB, rfl, I.bare, Un.kept kp, ⟨fun _ => none, ?_, fun i y av e1 e2 e3 => ?_⟩, fun y c e => ?_, ?_, fun y c e => ?_, fun p hp => ?_, I.hok.kept kp, by rw [wipe_length]; exact I.len⟩
  · show Heap.Ns _ cenv.locals _
    rw [hL]
    exact Heap.Ns.keeps (Heap.Ns.new ..) fun b o e => pushCells_keeps _ _ _ _ e
  · obtain ⟨e2, hne⟩ := wipe_some e2
    have hfr : scope.names.lookup y = some .free ∧ (cenv.kindOf y = some .cell ∨ cenv.kindOf y = some .free) := by
      have key : ∀ k, cenv.scope.names.lookup y = some k → k = .local ∨ k = .cell ∨ k = .free → scope.names.lookup y = some .free ∧ (cenv.kindOf y = some .cell ∨ cenv.kindOf y = some .free) := fun k hk hk' => by
        have hk0 := hk
        rw [hsc] at hk
        obtain ⟨k', e, r⟩ := lookup_relS hk
        have no : ¬ (k' = .local ∨ k' = .cell) := fun hh => by
          rcases ok.own _ (PySem.mem_of_lookup e) hh with e' | e'
          · obtain ⟨p, hp, hpy⟩ := List.mem_map.mp e'
            have e3 := ok.ix p hp
            have : p.1 = y := hpy
            rw [this] at e3
            exact hne (List.mem_map.mpr ⟨p, hp, nodup_ix hN e3 e1⟩)
          · exact e' (List.mem_of_getElem? e1)
        rcases r with rfl | ⟨rfl, rfl⟩
        · rcases hk' with rfl | rfl | rfl
          · exact absurd (.inl rfl) no
          · exact absurd (.inr rfl) no
          · exact ⟨e, .inr hk0⟩
        · exact ⟨e, .inl hk0⟩
      have e3 : Vis cenv.scope y := e3
      rcases e3 with e3 | e3 | e3
      · exact key _ e3 (.inl rfl)
      · exact key _ e3 (.inr (.inl rfl))
      · exact key _ e3 (.inr (.inr rfl))
    obtain ⟨m, hn, hl⟩ := I.loc
    have hvis : Vis X.env.scope y := (ok.free _ (PySem.mem_of_lookup hfr.1) rfl).elim (fun k => .inr (.inl k)) (fun k => .inr (.inr k))
    obtain ⟨w, r, q⟩ := hl i y av e1 e2 hvis
    refine ⟨w, r, .inr ⟨hfr.2, ?_⟩⟩
    obtain ⟨c, h1, h2⟩ := look hfr.1
    rcases q with ⟨k, _⟩ | ⟨_, c', e', z⟩
    · have k : X.env.scope.names.lookup y = some .local := k
      rcases ok.free _ (PySem.mem_of_lookup hfr.1) rfl with k' | k' <;> rw [show X.env.scope.names.lookup y = _ from k'] at k <;> cases k
    · rw [h2] at e'; cases e'
      exact ⟨c, h1, z.keeps kp⟩
  · have e : cenv.cells.lookup y = some c := e
    rcases mem e with ⟨h1, _⟩ | ⟨_, z⟩
    · obtain ⟨w, z⟩ := I.cell y c h1
      exact ⟨w, z.keeps kp⟩
    · exact ⟨_, z⟩
  · show H cenv.locals = none
    rw [hL]; exact I.hok.fresh (Nat.le_refl _)
  · have e : cenv.cells.lookup y = some c := e
    rcases mem e with ⟨h1, _⟩ | ⟨h1, _⟩
    · exact I.freeC y c h1
    · exact I.hok.fresh (Nat.le_of_succ_le h1)
  · exact absurd (show p ∈ ([] : List (Addr × Obj)) ++ [] from hp) (by simp)

/-- an item appended to a tracked list -/
theorem app_ok {E : Value → Shared → Prop} {D : Addr} {xs : List V} {y : V} {v : Value} {Q : Value → Shared → Prop} (I : Inv X pins σ H s) (hD : H D = some (.lst xs)) (hz : xs.length < sizeLine) (r : RelV y v)
    (h : ∀ s', Inv X pins σ (upd H D (.lst (xs ++ [y]))) s' → Q .none s') : wpAny (model X.prog X.w) X.A (call (.builtin "list.append") [.ref D, v]) Q E s := by
  obtain ⟨hz', its, n, ri, e⟩ := I.hok D _ hD
  have hl := ri.length
  refine append_at (hsz := by rw [List.size_toArray]; omega) e fun h' sb ho' => ?_
  refine h { s with heap := h' } (I.write (t' := s.toks) (by rw [hD]; trivial) (.inl rfl) (fun b u hb q => (sb.2 b hb).trans q) ⟨_, ho'⟩ ⟨by rw [List.length_append]; exact hz, its ++ [v], n + 1, ri.append (.cons r .nil), ?_⟩)
  rw [ho']
  simp

/-- a clause's tests -/
def PTs (X : Cx) (ifs : List Expr) (t : TT) : Prop :=
  ∀ (pins : List (Addr × Obj)) (s : Shared) (σ : St) (H : Hp) (Q : Bool → Hp → Prop), Inv X pins σ H s → t σ H Q →
    wpAny (model X.prog X.w) X.A (forIn ifs true fun c r => if r = true then do let ok ← isTrue c X.env (eval c X.env); pure (ForInStep.yield ok) else pure (ForInStep.yield r)) (TP X pins σ Q) X.xe s
def tYes : TT := fun _ H Q => Q true H
theorem pts_nil : PTs X [] tYes := fun _ _ _ H _ I h => wpAny_tests_nil ⟨H, I, h⟩
theorem pts_one {c : Expr} {t : TT} (h : PT X c t) : PTs X [c] t := fun pins s σ H Q I hw => wpAny_tests_one (h pins s σ H Q I hw)
end

theorem thnF {α : Type} {t : Sem α} {Q Q' : α → Shared → Prop} {M : Model} {A : Around} {E : Value → Shared → Prop} {s : Shared} (h : wpAny M A t Q (fun _ _ => False) s) (hQ : ∀ a s, Q a s → Q' a s) : wpAny M A t Q' E s := wpAny_mono h hQ fun _ _ z => False.elim z

/-- the loop of a list comprehension's block, the target of any form (codeAny_compLoop_tests asks a target that no tuple goes to; statement and proof follow it, PyProof/CompMap.lean:41-61, with the step letOwnedTupleGo kept) -/
theorem compLoop_any {prog : Program} {w : World} {A : Around} {R : Result → Shared → Prop} {s : Shared} {elt target iter : Expr} {ifs : List Expr} {scope : Scope} {pos : Pos} {it acc : Value} {env : Env} (I : Nat → Shared → Prop)
    (turn : ∀ n s, I n s → wpAny (model prog w) A (pyNext it) (fun r s₁ => match r with
      | none => R (.ok .next) s₁
      | some v => wpAny (model prog w) A (letOwnedTupleGo target it v) (fun _ s₁' => wpAny (model prog w) A (assign target env v) (fun _ s₂ =>
          wpAny (model prog w) A (forIn ifs true fun c r => if r = true then do let ok ← isTrue c env (eval c env); pure (ForInStep.yield ok) else pure (ForInStep.yield r)) (fun ok s₃ =>
            if ok = true then wpAny (model prog w) A (eval elt env) (fun x s₄ =>
              wpAny (model prog w) A (call (.builtin "list.append") [acc, x]) (fun _ s₅ => ∃ m, m < n ∧ I m s₅) (notedBy (model prog w) A env fun e s' => R (.error e) s') s₄) (notedBy (model prog w) A env fun e s' => R (.error e) s') s₃
            else ∃ m, m < n ∧ I m s₃) (notedBy (model prog w) A env fun e s' => R (.error e) s') s₂) (notedBy (model prog w) A env fun e s' => R (.error e) s') s₁') (notedBy (model prog w) A env fun e s' => R (.error e) s') s₁) (notedBy (model prog w) A env fun e s' => R (.error e) s') s)
    (n : Nat) (h : I n s) :
    codeAny (model prog w) A (.compLoop (.ListComp elt [⟨target, iter, ifs, 0⟩] scope pos) 0 it acc env) R s := by
  refine codeAny_loop rfl I (fun n s hI => ?_) n h
  show wpAny _ A ((compTurn (.ListComp elt [⟨target, iter, ifs, 0⟩] scope pos) 0 it acc env).onRaise (fun x => do noteFrame x env; theTreesLotGoes x)) _ _ s
  refine wpAny_noted ?_
  rw [compTurn_list]
  refine wpAny_bind (wpAny_standAt (wpAny_bind (wpAny_mono (turn n s hI) (fun r s₁ h₁ => ?_) fun _ _ h' => h')))
  cases r with
  | none => exact wpAny_pure h₁
  | some v =>
    refine wpAny_bind (wpAny_mono h₁ (fun _ s₁' h₁' => ?_) fun _ _ h' => h')
    refine wpAny_bind (wpAny_mono h₁' (fun _ s₂ h₂ => wpAny_bind (wpAny_mono h₂ (fun ok s₃ h₃ => ?_) fun _ _ h' => h')) fun _ _ h' => h')
    cases ok with
    | false => exact wpAny_pure ⟨rfl, h₃⟩
    | true =>
      exact wpAny_bind (wpAny_bind (wpAny_mono h₃ (fun x s₄ h₄ => wpAny_bind (wpAny_mono h₄ (fun _ s₅ h₅ => wpAny_pure (wpAny_pure ⟨rfl, h₅⟩)) fun _ _ h' => h')) fun _ _ h' => h'))

section
variable {X : Cx}
/-- [elt for target in iter if ..]: D the new list; W by the turn and a measure, Nx what a turn is to reach -/
def tLc (wi : TI) (g : TG) (tt : TT) (te : TE) (vs : List Nat) : TE := fun σ H Q => wi σ H fun J H1 => ∀ D, H1 D = none → ∃ W : Nat → Nat → Hp → Prop, (∃ m, W 0 m (upd H1 D (.lst []))) ∧ ∀ i m H, W i m H →
  (J.stop i H ∧ Q (.ref D) H) ∨ (J.go i H ∧ ∃ Nx : Hp → Prop, (∀ H', Nx H' → ∃ m', m' < m ∧ W (i + 1) m' H') ∧ ∀ x H', J.yld i H x H' → g x (wipe σ vs) H' fun σ2 H2 => wipe σ2 vs = wipe σ vs ∧ tt σ2 H2 fun b H3 =>
    if b = true then te σ2 H3 fun y H4 => ∃ acc, H4 D = some (.lst acc) ∧ acc.length < sizeLine ∧ Nx (upd H4 D (.lst (acc ++ [y]))) else Nx H3)
theorem lc_core {pins : List (Addr × Obj)} {s : Shared} {σ : St} {H : Hp} {Q : VK} {elt tg iter : Expr} {ifs : List Expr} {scope : Scope} {own : List (Str × Nat)} {pos pos' : Pos} {wi : TI} {g : TG} {tt : TT} {te : TE} {use : Option (Value → Sem Unit)} {Qf : Value → Shared → Prop}
    (hc : X.calm = true) (hN : X.N.Nodup) (I : Inv X pins σ H s) (hi : PI X tg iter wi) (ok : BlkOk X.N X.env.scope scope own)
    (hg : ∀ (s : Shared) (H : Hp) (C : Addr) (cl : List (Str × Addr)) (fp : List Addr), PG (X.blk s H scope (compEnvC scope cl C X.env) fp) tg g) (ht : ∀ (s : Shared) (H : Hp) (C : Addr) (cl : List (Str × Addr)) (fp : List Addr), PTs (X.blk s H scope (compEnvC scope cl C X.env) fp) ifs tt)
    (he : ∀ (s : Shared) (H : Hp) (C : Addr) (cl : List (Str × Addr)) (fp : List Addr), PE (X.blk s H scope (compEnvC scope cl C X.env) fp) elt te) (hs : ∀ x, foldedSetIterable iter X.env x = pure x)
    (h : tLc wi g tt te (own.map (·.2)) σ H Q)
    (hRR : ∀ D C s' m H', Inv X pins σ H' s' → Q (.ref D) H' → s'.heap.Ns C m → FpOk X pins H' C → compPost (model X.prog X.w) X.A X.xe use Qf (.ref D) C (.ok .next) s') :
    wpAny (model X.prog X.w) X.A (comprehension (.ListComp elt [⟨tg, iter, ifs, 0⟩] scope pos) scope X.env pos' (newList []) false (eval iter X.env) use) Qf X.xe s := by
  have hfree : ∀ y ∈ scope.names, y.2 = .free → ∃ c, X.env.cells.lookup y.1 = some c := fun y hy e => by
    rcases ok.free y hy e with k | k
    · exact I.ok.has _ (.inl k)
    · exact I.ok.has _ (.inr k)
  refine wpAny_comprehension_free (use := use) rfl hs (closure_ok hfree) ok.kind (fun y hy e => by rw [ok.uniq y hy, e])
    (thn (hi pins s σ H _ I h) fun xv s1 hx => thn hx fun itv s2 h2 => ?_)
  obtain ⟨it, fp, tn, J, H2, e, I2, T, st2, f2, q⟩ := h2
  subst e
  refine wpAny_newObj_type (newEnv_comp ?_) (by show 0 ≤ sizeLine; decide)
  generalize hD : s2.heap.objs.size = D
  have hDn : H2 D = none := I2.hok.fresh (Nat.le_of_eq hD)
  obtain ⟨W, ⟨m0, w0⟩, turn⟩ := q D hDn
  -- the new list
  generalize hs3 : ({ s2 with heap := s2.heap.push { cls := .type "list", data := .seq ([] : List Value).toArray } } : Shared) = s3
  have I3 : Inv X pins σ (upd H2 D (.lst [])) s3 := by
    rw [← hs3]
    refine I2.laid (t' := s2.toks) (fun b o e => Heap.get?_push_of_some _ e) (Nat.le_of_eq hD) ⟨Nat.zero_le _, [], 0, .nil, ?_⟩
    rw [← hD]
    exact Heap.get?_push_size _ rfl
  have h3 : s3.heap = s2.heap.push { cls := .type "list", data := .seq ([] : List Value).toArray } := by rw [← hs3]
  have sz : ∀ b ∈ fp, b < s2.heap.objs.size := fun b hb => by
    obtain ⟨o, e, _⟩ := T.obj _ _ st2 b hb
    exact Heap.lt_size e
  have f3 : ∀ b ∈ fp, FpOk X pins (upd H2 D (.lst [])) b ∧ b < s3.heap.objs.size := fun b hb => by
    have hlt := sz b hb
    refine ⟨⟨?_, (f2 b hb).2⟩, by rw [h3, Heap.size_push]; exact Nat.lt_succ_of_lt hlt⟩
    rw [upd_ne (by rw [← hD]; exact Nat.ne_of_lt hlt)]
    exact (f2 b hb).1
  have st3 : tn 0 s3.heap := T.keep _ _ _ st2 fun b _ o e => by rw [h3]; exact Heap.get?_push_of_some _ e
  have I4 := block_start I3 ok hN f3
  have pg := hg s3 (upd H2 D (.lst [])) s3.heap.objs.size (cellsFrom (s3.heap.objs.size + 1) scope.names (cloFrom X.env.cells scope.names [])) fp
  have pt := ht s3 (upd H2 D (.lst [])) s3.heap.objs.size (cellsFrom (s3.heap.objs.size + 1) scope.names (cloFrom X.env.cells scope.names [])) fp
  have pe := he s3 (upd H2 D (.lst [])) s3.heap.objs.size (cellsFrom (s3.heap.objs.size + 1) scope.names (cloFrom X.env.cells scope.names [])) fp
  show codeAny _ _ (.compStart (.ListComp elt [⟨tg, iter, ifs, 0⟩] scope pos) 0 (.ref it) (.ref D) (compEnvC scope (cellsFrom (s3.heap.objs.size + 1) scope.names (cloFrom X.env.cells scope.names [])) s3.heap.objs.size X.env)) (compPost (model X.prog X.w) X.A X.xe use Qf (.ref D) s3.heap.objs.size) { s3 with heap := pushCells (s3.heap.push { cls := .type "dict", data := .dict #[] }) scope.names }
  have nfp : ∀ b ∈ fp, (upd H2 D (.lst [])) b = none := fun b hb => (f3 b hb).1.1
  generalize hce : compEnvC scope (cellsFrom (s3.heap.objs.size + 1) scope.names (cloFrom X.env.cells scope.names [])) s3.heap.objs.size X.env = ce at I4 pg pt pe ⊢
  have cL : ce.locals = s3.heap.objs.size := by subst hce; rfl
  generalize hH3 : upd H2 D (.lst []) = H3 at I3 I4 pg pt pe w0 nfp f3
  generalize hs4 : ({ s3 with heap := pushCells (s3.heap.push { cls := .type "dict", data := .dict #[] }) scope.names } : Shared) = s4 at I4 ⊢
  have st4 : tn 0 s4.heap := T.keep _ _ _ st3 fun b _ o e => by rw [← hs4]; exact pushCells_keeps _ _ _ _ (Heap.get?_push_of_some _ e)
  have stat : ∀ {σ' : St} {H' : Hp} {s' : Shared}, Inv (X.blk s3 H3 scope ce fp) [] σ' H' s' → (∀ b ∈ fp, H' b = none) → ∀ b ∈ fp, FpOk (X.blk s3 H3 scope ce fp) [] H' b := fun {σ' H' s'} I' hn b hb =>
    ⟨hn b hb, (I'.ok.exf b hb).1, I'.ok.exfs b hb, .inl hb, fun x c e => (I'.ok.exf b hb).2 x c e, fun p hp => absurd (show p ∈ ([] : List (Addr × Obj)) ++ [] from hp) (by simp)⟩
  have loop : codeAny (model X.prog X.w) X.A (.compLoop (.ListComp elt [⟨tg, iter, ifs, 0⟩] scope pos) 0 (.ref it) (.ref D) ce) (compPost (model X.prog X.w) X.A X.xe use Qf (.ref D) s3.heap.objs.size) s4 := by
    refine compLoop_any (fun n s' => ∃ i H', Inv (X.blk s3 H3 scope ce fp) [] (wipe σ (own.map (·.2))) H' s' ∧ tn i s'.heap ∧ (∀ b ∈ fp, H' b = none) ∧ W i n H') ?_ m0 ⟨0, H3, I4, st4, nfp, w0⟩
    rintro n s5 ⟨i, H5, I5, st5, n5, w5⟩
    rcases turn i n H5 w5 with ⟨stop, qq⟩ | ⟨go, Nx, hNx, step⟩
    · have td := T.done (X.blk s3 H3 scope ce fp) rfl rfl rfl hc i [] s5 _ H5 (fun _ _ => False) I5 (stat I5 n5) st5 stop
      refine thnF td fun r s6 ⟨hr, I6⟩ => ?_
      subst hr
      -- back in the def's context
      have I7 : Inv X pins σ H5 s6 := I3.call' (ch := fp) I6.os I6.base I6.hok I6.bare fun b hb => ⟨(f3 b hb).1.2.2.2.1, (f3 b hb).1.2.1, (f3 b hb).1.2.2.2.2.1, (f3 b hb).1.2.2.2.2.2⟩
      have nC : H5 s3.heap.objs.size = none := by
        have z : H5 ce.locals = none := I6.free
        rw [cL] at z
        exact z
      obtain ⟨m, hn, _⟩ := I6.loc
      have hn : s6.heap.Ns ce.locals m := hn
      rw [cL] at hn
      exact hRR D s3.heap.objs.size s6 m H5 I7 qq hn (I3.fpOk (Nat.le_refl _) nC)
    · have ti := T.item (X.blk s3 H3 scope ce fp) rfl rfl rfl hc i [] s5 _ H5 (fun _ _ => False) I5 (stat I5 n5) st5 go
      refine thnF ti fun r s6 ⟨u, hr, h6⟩ => ?_
      subst hr
      refine thnF h6 fun _ s7 ⟨x, H7, I7, r7, y7, st7, n7⟩ => ?_
      have I7' := I7.pinned (stat I7 n7) (T.obj _ _ st7)
      refine thnF (pg _ s7 _ H7 x u _ I7' r7 (step x H7 y7)) fun _ s8 ⟨σ8, H8, I8, hw8, q8⟩ => ?_
      refine thnF (pt _ s8 σ8 H8 _ I8 q8) fun b s9 ⟨H9, I9, q9⟩ => ?_
      -- the turn's end
      have fin : ∀ {s' : Shared} {H' : Hp}, Inv (X.blk s3 H3 scope ce fp) ([] ++ pinsAt fp s7.heap) σ8 H' s' → Nx H' → ∃ m, m < n ∧ ∃ i H', Inv (X.blk s3 H3 scope ce fp) [] (wipe σ (own.map (·.2))) H' s' ∧ tn i s'.heap ∧ (∀ b ∈ fp, H' b = none) ∧ W i m H' := fun {s' H'} I' nx => by
        obtain ⟨m', hm, w'⟩ := hNx H' nx
        have pin' : ∀ b ∈ fp, ∀ o, s7.heap.get? b = some o → s'.heap.get? b = some o ∧ H' b = none := fun b hb o e =>
          let z := I'.pin (b, o) (List.mem_append_right _ (List.mem_append_right _ (mem_pinsAt hb e)))
          ⟨z.1, z.2.1⟩
        have hl : (wipe σ (own.map (·.2))).length = σ8.length := by rw [← hw8, wipe_length]
        refine ⟨m', hm, i + 1, H', (I'.unpinned (pins := [])).weak hl (fun j v e => ?_), T.keep _ _ _ st7 fun b hb o e => (pin' b hb o e).1, fun b hb => ?_, w'⟩
        · rw [← hw8] at e
          exact (wipe_some e).1
        · obtain ⟨o, e, _⟩ := T.obj _ _ st7 b hb
          exact (pin' b hb o e).2
      cases b with
      | false =>
        simp only [Bool.false_eq_true, if_false] at q9 ⊢
        exact fin I9 q9
      | true =>
        simp only [if_true] at q9 ⊢
        refine thnF (pe _ s9 σ8 H9 _ I9 q9) fun z s10 ⟨yv, H10, I10, r10, acc, hD10, hz10, nx⟩ => ?_
        exact app_ok (X := X.blk s3 H3 scope ce fp) I10 hD10 hz10 r10 fun s11 I11 => fin I11 nx
  exact codeAny_compStart_list loop (T.self X.A 0 _ _ _ st4 loop)
/-- name = [..] on one line, the name a local -/
theorem ps_setLc {i : Nat} {y : Str} {py : Pos} {elt tg iter : Expr} {ifs : List Expr} {scope : Scope} {own : List (Str × Nat)} {pos spos : Pos} {wi : TI} {g : TG} {tt : TT} {te : TE} (hc : X.calm = true) (hN : X.N.Nodup) (hy : X.N[i]? = some y) (hyl : X.env.scope.names.lookup y = some .local)
    (hsw : swapsWith (.ListComp elt [⟨tg, iter, ifs, 0⟩] scope pos) (some (.Name y py)) spos.line X.env = pure true) (hi : PI X tg iter wi) (ok : BlkOk X.N X.env.scope scope own)
    (hg : ∀ (s : Shared) (H : Hp) (C : Addr) (cl : List (Str × Addr)) (fp : List Addr), PG (X.blk s H scope (compEnvC scope cl C X.env) fp) tg g) (ht : ∀ (s : Shared) (H : Hp) (C : Addr) (cl : List (Str × Addr)) (fp : List Addr), PTs (X.blk s H scope (compEnvC scope cl C X.env) fp) ifs tt)
    (he : ∀ (s : Shared) (H : Hp) (C : Addr) (cl : List (Str × Addr)) (fp : List Addr), PE (X.blk s H scope (compEnvC scope cl C X.env) fp) elt te) (hs : ∀ x, foldedSetIterable iter X.env x = pure x := by intro _; rfl) :
    PS X (.Assign [.Name y py] (.ListComp elt [⟨tg, iter, ifs, 0⟩] scope pos) spos) (tAsg (tLc wi g tt te (own.map (·.2))) (gName i)) := by
  intro pins s σ H D I h
  rw [exec_Assign_Name_used _ _ _ _ hsw]
  refine wpAny_bind (wpAny_standAt (wpAny_bind ?_))
  show wpAny _ X.A (do let _ ← comprehension (.ListComp elt [⟨tg, iter, ifs, 0⟩] scope pos) scope X.env (firstIterPos [⟨tg, iter, ifs, 0⟩] pos) (newList []) false (eval iter X.env) (some (assign (.Name y py) X.env))) _ _ s
  have h : tLc wi g tt te (own.map (·.2)) σ H (fun x H1 => gName i x σ H1 D.nx) := h
  refine wpAny_bind (thn (lc_core (Qf := fun _ s' => SP X pins D .next s') hc hN I hi ok hg ht he hs h fun L C s' m H' I' q hn f => ?_) fun _ s' hq => wpAny_pure (wpAny_pure hq))
  show wpAny _ _ (assign (.Name y py) X.env (.ref L)) _ _ _
  refine wpAny_assign_Name (store_ok2 (v := V.ref L) I' hN hy (.inl hyl) rfl (fun s2 I2 ⟨a, sb, ha⟩ => ?_) (.inr hyl))
  obtain ⟨f0, f1, f2, f3, f4, f5⟩ := f
  have haC : C ≠ a := by
    rcases ha with z | z
    · rw [z]; exact f1
    · exact fun e => f4 y a z e.symm
  refine ⟨m, hn.sameBut sb haC, fun h3 sb3 => ?_⟩
  exact ⟨_, H', I2.turned (t' := s2.toks) (fun b o hb e => (sb3.2 b hb).trans e) f0 f1 f3 f4 f5, q⟩
theorem sw_true {elt : Expr} {gs : List Comprehension} {scope : Scope} {pos py : Pos} {y : Str} {l : Nat} {env : Env} (hk : env.scope.kind = .function) (hy : env.scope.names.lookup y = some .local) (hl : (py.line == pos.line) = true)
    (ha : (scope.names.any fun (n, k) => n == y && (k == .local || k == .cell)) = false) : swapsWith (.ListComp elt gs scope pos) (some (.Name y py)) l env = pure true := by
  have ky : env.kindOf y = some .local := hy
  have hb : env.blockKind = .function := by unfold Env.blockKind; rw [hk]; rfl
  unfold swapsWith
  simp only [hb, ky, ha, Expr.pos, hl]
  rfl
end

/-! ### the forms one uses -/
/-- over a range: Pv by the turn and the heap (the new list at D within) -/
theorem lc_range {lo : Int} {n : Nat} {g : TG} {tt : TT} {te : TE} {vs : List Nat} {σ : St} {H1 : Hp} {D : Addr} {Qd : Hp → Prop} (Pv : Nat → Hp → Prop) (h0 : Pv 0 (upd H1 D (.lst [])))
    (hs : ∀ i H, i < n → Pv i H → g (.int (lo + i)) (wipe σ vs) H fun σ2 H2 => wipe σ2 vs = wipe σ vs ∧ tt σ2 H2 fun b H3 =>
      if b = true then te σ2 H3 fun y H4 => ∃ acc, H4 D = some (.lst acc) ∧ acc.length < sizeLine ∧ Pv (i + 1) (upd H4 D (.lst (acc ++ [y]))) else Pv (i + 1) H3) (hd : ∀ H, Pv n H → Qd H) :
    ∃ W : Nat → Nat → Hp → Prop, (∃ m, W 0 m (upd H1 D (.lst []))) ∧ ∀ i m H, W i m H →
      ((Itr lo n).stop i H ∧ Qd H) ∨ ((Itr lo n).go i H ∧ ∃ Nx : Hp → Prop, (∀ H', Nx H' → ∃ m', m' < m ∧ W (i + 1) m' H') ∧ ∀ x H', (Itr lo n).yld i H x H' → g x (wipe σ vs) H' fun σ2 H2 => wipe σ2 vs = wipe σ vs ∧ tt σ2 H2 fun b H3 =>
        if b = true then te σ2 H3 fun y H4 => ∃ acc, H4 D = some (.lst acc) ∧ acc.length < sizeLine ∧ Nx (upd H4 D (.lst (acc ++ [y]))) else Nx H3) := by
  refine ⟨fun i m H => m = n - i ∧ i ≤ n ∧ Pv i H, ⟨n, by simp, Nat.zero_le _, h0⟩, ?_⟩
  rintro i m H ⟨rfl, hi, p⟩
  by_cases hlt : i < n
  · refine .inr ⟨hlt, Pv (i + 1), fun H' p' => ⟨n - (i + 1), by omega, rfl, hlt, p'⟩, fun x H' y => ?_⟩
    obtain ⟨e, y⟩ := y
    subst e y
    exact hs i _ hlt p
  · have e : i = n := by omega
    subst e
    exact .inl ⟨Nat.le_refl _, hd H p⟩
/-- over a list that the block leaves as it is -/
theorem lc_list {K : PySem.W.Frag} {a : Addr} {xs : List V} {g : TG} {tt : TT} {te : TE} {vs : List Nat} {σ : St} {H1 : Hp} {D : Addr} {Qd : Hp → Prop} (Pv : Nat → Hp → Prop) (h0 : Pv 0 (upd H1 D (.lst []))) (hl : ∀ i H, i ≤ xs.length → Pv i H → SqL K H a xs)
    (hs : ∀ i x H, xs[i]? = some x → Pv i H → g x (wipe σ vs) H fun σ2 H2 => wipe σ2 vs = wipe σ vs ∧ tt σ2 H2 fun b H3 =>
      if b = true then te σ2 H3 fun y H4 => ∃ acc, H4 D = some (.lst acc) ∧ acc.length < sizeLine ∧ Pv (i + 1) (upd H4 D (.lst (acc ++ [y]))) else Pv (i + 1) H3) (hd : ∀ H, Pv xs.length H → Qd H) :
    ∃ W : Nat → Nat → Hp → Prop, (∃ m, W 0 m (upd H1 D (.lst []))) ∧ ∀ i m H, W i m H →
      ((Itl K a).stop i H ∧ Qd H) ∨ ((Itl K a).go i H ∧ ∃ Nx : Hp → Prop, (∀ H', Nx H' → ∃ m', m' < m ∧ W (i + 1) m' H') ∧ ∀ x H', (Itl K a).yld i H x H' → g x (wipe σ vs) H' fun σ2 H2 => wipe σ2 vs = wipe σ vs ∧ tt σ2 H2 fun b H3 =>
        if b = true then te σ2 H3 fun y H4 => ∃ acc, H4 D = some (.lst acc) ∧ acc.length < sizeLine ∧ Nx (upd H4 D (.lst (acc ++ [y]))) else Nx H3) := by
  refine ⟨fun i m H => m = xs.length - i ∧ i ≤ xs.length ∧ Pv i H, ⟨xs.length, by simp, Nat.zero_le _, h0⟩, ?_⟩
  rintro i m H ⟨rfl, hi, p⟩
  have q := hl i H hi p
  by_cases hlt : i < xs.length
  · refine .inr ⟨⟨xs, xs[i], q, by simp [hlt]⟩, Pv (i + 1), fun H' p' => ⟨xs.length - (i + 1), by omega, rfl, hlt, p'⟩, fun x H' y => ?_⟩
    obtain ⟨e, y⟩ := y
    subst e
    exact hs i x _ (y xs q) p
  · have e : i = xs.length := by omega
    subst e
    exact .inl ⟨⟨xs, q, Nat.le_refl _⟩, hd H p⟩
def blkC (N : List Str) (sc scope : Scope) (own : List (Str × Nat)) : Bool :=
  (match scope.kind with | .function => true | _ => false) && (scope.names.all fun y => decide (scope.names.lookup y.1 = some y.2)) && (own.all fun p => decide (N[p.2]? = some p.1)) &&
    (scope.names.all fun y => match y.2 with
      | .free => (match sc.names.lookup y.1 with | some .cell => true | some .free => true | _ => false)
      | .local => decide (y.1 ∈ own.map (·.1)) || decide (y.1 ∉ N)
      | .cell => decide (y.1 ∈ own.map (·.1)) || decide (y.1 ∉ N)
      | _ => true)
theorem blkOk_by {N : List Str} {sc scope : Scope} {own : List (Str × Nat)} (h : blkC N sc scope own = true) : BlkOk N sc scope own := by
  unfold blkC at h
  simp only [Bool.and_eq_true, List.all_eq_true, decide_eq_true_eq] at h
  obtain ⟨⟨⟨h1, h2⟩, h3⟩, h4⟩ := h
  refine ⟨?_, h2, h3, fun y hy e => ?_, fun y hy e => ?_⟩
  · split at h1
    · assumption
    · cases h1
  · have q := h4 y hy
    simp only [e] at q
    split at q <;> first | exact .inl (by assumption) | exact .inr (by assumption) | cases q
  · have q := h4 y hy
    rcases e with e | e <;> (simp only [e, Bool.or_eq_true, decide_eq_true_eq] at q; exact q)
end L2

namespace L2
open PySem PySem.Spec PyProof.Rows

section
variable {prog : Program} {w : World} {A : Around} {R : Result → Shared → Prop} {s : Shared} {elt t0 i0 t1 i1 : Expr} {ifs0 ifs1 : List Expr} {scope : Scope} {pos : Pos} {it acc : Value} {env : Env}
end

section
variable {X : Cx}
end
end L2

namespace L2
open PySem PySem.Spec PyProof.Rows

/-! ### lists of pairs as tables -/
section
variable {κ : Type} [DecidableEq κ]
end


/-! ### a tracked dict, its keys ints and texts or tuples of these -/
section
variable {P : Program} {w : World} {H : Hp} {h : Heap} {a : Addr}
end

section
variable {X : Cx} {pins : List (Addr × Obj)} {σ : St} {H : Hp} {s : Shared} {a : Addr} {y v : V} {u r : Value} {o : Option V} {A : Around} {E : Value → Shared → Prop}

end

section
variable {X : Cx} {pins : List (Addr × Obj)} {σ : St} {H : Hp} {s : Shared} {a : Addr} {kvs : List (Key × V)} {k : Key} {u : Value} {A : Around} {E : Value → Shared → Prop}
end


/-! ### readings and rules -/
section
variable {X : Cx} {o i e value : Expr} {pos pos' tpos : Pos} {td ty tv : TE}
end


/-! ### displays -/
section
variable {X : Cx} {pos : Pos}
end

/-! ### methods -/
/-- a method call o.m(e) of a built-in, with one argument: what must be seen of the text -/
structure M1 (X : Cx) (o : Expr) (m : Str) (apos : Pos) (e : Expr) (cpos : Pos) : Prop where
  base : attributeBase o m X.env (eval o X.env) = eval o X.env
  few : ((backTo cpos (starEach [e] X.env)).all (fun x => !x.1) && (backToKw cpos (keywordEach [] X.env)).all (fun x => x.1.isSome)
    && decide (([e] : List Expr).length + ([] : List Keyword).length + (if ([] : List Keyword).isEmpty then 0 else 1) < 30)) = true
  line : (apos.endLine == cpos.line) = true
  trees : backTo cpos (starEach [e] X.env) = [(false, eval e X.env)]
structure M2 (X : Cx) (o : Expr) (m : Str) (apos : Pos) (e f : Expr) (cpos : Pos) : Prop where
  base : attributeBase o m X.env (eval o X.env) = eval o X.env
  few : ((backTo cpos (starEach [e, f] X.env)).all (fun x => !x.1) && (backToKw cpos (keywordEach [] X.env)).all (fun x => x.1.isSome)
    && decide (([e, f] : List Expr).length + ([] : List Keyword).length + (if ([] : List Keyword).isEmpty then 0 else 1) < 30)) = true
  line : (apos.endLine == cpos.line) = true
  trees : backTo cpos (starEach [e, f] X.env) = [(false, eval e X.env), (false, eval f X.env)]

section
variable {X : Cx} {pins : List (Addr × Obj)} {σ : St} {H : Hp} {s : Shared} {a : Addr} {y d : V} {u r : Value} {o : Option V} {A : Around} {E : Value → Shared → Prop}
end

section
variable {X : Cx} {o e f : Expr} {apos cpos : Pos} {td ty tx : TE}
end

/-! ### dict(d): a copy -/
section
variable {X : Cx} {pins : List (Addr × Obj)} {σ : St} {H : Hp} {s : Shared} {a : Addr} {kvs : List (Key × V)} {A : Around} {E : Value → Shared → Prop}
end


section
variable {X : Cx} {pins : List (Addr × Obj)} {σ : St} {H : Hp} {s : Shared} {a : Addr} {y : V} {u : Value} {A : Around} {E : Value → Shared → Prop}
end
end L2

namespace L2
open PySem PySem.Spec PyProof.Rows

section
variable {prog : Program} {w : World} {A : Around} {E : Value → Shared → Prop}
end

section
variable {X : Cx}
end
end L2

namespace L2
open PySem PySem.Spec PyProof.Rows

section
variable {X : Cx} {pins : List (Addr × Obj)} {σ : St} {H : Hp} {s : Shared} {h' : Heap}
/-- .. and one new object is laid -/
theorem Inv.turnedNew {t' : Nat} {ch : List Addr} {T : Addr} {ob : HO} (I : Inv X pins σ H s) (k : ∀ b o, b ∉ ch → s.heap.get? b = some o → h'.get? b = some o) (hf : ∀ b ∈ ch, FpOk X pins H b) (hT : s.heap.objs.size ≤ T)
    (new : ObjOk X.prog X.w (upd H T ob) h' T ob) : Inv X pins σ (upd H T ob) { s with heap := h', toks := t' } := by
  have hn : H T = none := I.hok.fresh hT
  have nit : ∀ b u, H b = some u → b ∉ ch := fun b u e z => by
    have q := (hf b z).1
    rw [q] at e; cases e
  refine I.step (g' := s.gens) (d' := s.drawn) (ch := ch) (fun b hb => ⟨(hf b hb).2.2.2.1, (hf b hb).2.1, (hf b hb).2.2.2.2.1, (hf b hb).2.2.2.2.2⟩) (fun b o _ _ hc e _ => k b o hc e) (fun b o _ _ hc e _ => ⟨o.slots, k b o hc e⟩)
    (fun b o _ e n => ?_) (fun b o hc e => ⟨o, k b o hc e⟩) (fun b xs e => ?_) (fun b o u e => ?_) (fun b ps e => ⟨#[], ?_⟩) (fun m hm => ?_) (fun b u e => ?_) I.bare
  · rw [upd_ne (Nat.ne_of_lt (Nat.lt_of_lt_of_le (Heap.lt_size e) hT))]; exact n
  · rw [upd_ne (ne_of_none e hn)]; exact e
  · rw [upd_ne (ne_of_none e hn)]; exact e
  · rw [upd_ne (ne_of_none e hn), e]; simp
  · obtain ⟨o, es, ep, ho, r⟩ := hm
    exact ⟨o, es, ep, k _ o (fun z => (hf _ z).2.1 rfl) ho, r⟩
  · by_cases hb : b = T
    · subst hb
      rw [upd_same] at e
      cases e
      exact new
    · rw [upd_ne hb] at e
      refine (I.hok b u e).stay (fun c v hc q => k c v ?_ q) (fun c q => by rw [upd_ne (ne_of_none q hn)]; exact q) fun c xs q => by rw [upd_ne (ne_of_none q hn)]; exact q
      rcases hc with z | z
      · rw [z]; exact nit b u e
      · exact nit c _ z

/-! ### locking a thing while a statement runs -/
theorem Inv.lock {d : Addr} {u : HO} (I : Inv X pins σ H s) (h : H d = some u) (mu : Mut (some u)) : ∃ od, Inv X pins σ (upd H d (.frz od u)) s := by
  have x := I.hok d u h
  have ex : ∃ od, s.heap.get? d = some od := by
    cases u with
    | lst xs => obtain ⟨_, _, _, _, e⟩ := x; exact ⟨_, e⟩
    | dK kvs => obtain ⟨_, _, _, _, o, _, _, e, _⟩ := x; exact ⟨o, e⟩
    | dT kvs => obtain ⟨_, _, _, _, o, _, _, e, _⟩ := x; exact ⟨o, e⟩
    | set S n => obtain ⟨o, _, _, _, e, _⟩ := x; exact ⟨o, e⟩
    | ins C dx fs => obtain ⟨_, _, _, e, _⟩ := x; exact ⟨_, e⟩
    | ext φ => obtain ⟨_, ⟨_, e⟩, _⟩ := x; exact ⟨_, e⟩
    | _ => exact False.elim mu
  obtain ⟨od, e⟩ := ex
  have new : ObjOk X.prog X.w (upd H d (.frz od u)) s.heap d (.frz od u) := by
    refine ⟨e, x.stay (fun b v _ q => q) (fun b q => ?_) fun b xs q => ?_⟩
    · rw [upd_ne (fun z => by rw [z, h] at q; cases q; exact mu)]; exact q
    · rw [upd_ne (fun z => by rw [z, h] at q; cases q; exact mu)]; exact q
  exact ⟨od, I.write (x := d) (e := d) (t' := s.toks) (h' := s.heap) (by rw [h]; exact mu) (.inl rfl) (fun b v _ q => q) ⟨od, e⟩ new⟩
theorem Inv.nofrz {d : Addr} {u : HO} (I : Inv X pins σ H s) (h : H d = some u) (mu : Mut (some u)) : ∀ o' u', X.H_0 d ≠ some (.frz o' u') := fun o' u' e => by
  have q := I.base.frzs d o' u' e
  rw [h] at q
  cases q
  exact mu
theorem Inv.unlock {d : Addr} {od : Obj} {u : HO} (I : Inv X pins σ H s) (h : H d = some (.frz od u)) (hn : ∀ o' u', X.H_0 d ≠ some (.frz o' u')) : Inv X pins σ (upd H d u) s := by
  have neH : ∀ b o, H b = some o → (∀ o' u', o ≠ .frz o' u') → b ≠ d := fun b o e hne z => by
    rw [z, h] at e
    cases e
    exact hne _ _ rfl
  have neN : ∀ b, H b = none → b ≠ d := fun b e z => by rw [z, h] at e; cases e
  refine ⟨I.ok, I.os, I.bare, ⟨I.base.keep, I.base.slot, fun b o e n hx => ?_, I.base.there, fun b xs e => ?_, fun b o x e => ?_, fun b ps e => ?_⟩, I.loc, I.cell, ?_, fun x c e => ?_, fun p hp => ?_, fun b o e => ?_, I.len⟩
  · rw [upd_ne (neN b (I.base.free b o e n hx))]; exact I.base.free b o e n hx
  · have q := I.base.tups b xs e
    rw [upd_ne (neH b _ q (fun _ _ z => nomatch z))]; exact q
  · have q := I.base.frzs b o x e
    rw [upd_ne (fun z => by rw [z] at e; exact hn _ _ e)]; exact q
  · obtain ⟨m, q⟩ := I.base.tbls b ps e
    exact ⟨m, by rw [upd_ne (neH b _ q (fun _ _ z => nomatch z))]; exact q⟩
  · rw [upd_ne (neN _ I.free)]; exact I.free
  · rw [upd_ne (neN c (I.freeC x c e))]; exact I.freeC x c e
  · obtain ⟨e, n, r⟩ := I.pin p hp
    exact ⟨e, by rw [upd_ne (neN _ n)]; exact n, r⟩
  · by_cases hb : b = d
    · rw [hb, upd_same] at e
      cases e
      rw [hb]
      obtain ⟨_, x⟩ := I.hok d _ h
      exact x.stay (fun c v _ q => q) (fun c q => by rw [upd_ne (neH c _ q (fun _ _ z => nomatch z))]; exact q) fun c xs q => by rw [upd_ne (neH c _ q (fun _ _ z => nomatch z))]; exact q
    · rw [upd_ne hb] at e
      exact (I.hok b o e).stay (fun c v _ q => q) (fun c q => by rw [upd_ne (neH c _ q (fun _ _ z => nomatch z))]; exact q) fun c xs q => by rw [upd_ne (neH c _ q (fun _ _ z => nomatch z))]; exact q
end
/-- the statement runs while the thing at d is locked (read, not written); d and what stands there are the reading's choice -/
def tLock (t : TS) : TS := fun D σ H => ∃ d u, H d = some u ∧ Mut (some u) ∧ ∀ od, t ⟨fun σ' H' => H' d = some (.frz od u) ∧ D.nx σ' (upd H' d u), fun v H' => H' d = some (.frz od u) ∧ D.rt v (upd H' d u), fun σ' H' => H' d = some (.frz od u) ∧ D.bk σ' (upd H' d u), fun σ' H' => H' d = some (.frz od u) ∧ D.ct σ' (upd H' d u)⟩ σ (upd H d (.frz od u))
section
variable {X : Cx}
theorem ps_lock {st : Stmt} {t : TS} (h : PS X st t) : PS X st (tLock t) := by
  intro pins s σ H D I hw
  obtain ⟨d, u, hd, mu, hw⟩ := hw
  obtain ⟨od, I1⟩ := I.lock hd mu
  refine thn (h pins s σ _ _ I1 (hw od)) fun f s1 q => ?_
  cases f with
  | next => obtain ⟨σ', H', I2, e, q⟩ := q; exact ⟨σ', _, I2.unlock e (I.nofrz hd mu), q⟩
  | brk => obtain ⟨σ', H', I2, e, q⟩ := q; exact ⟨σ', _, I2.unlock e (I.nofrz hd mu), q⟩
  | cont => obtain ⟨σ', H', I2, e, q⟩ := q; exact ⟨σ', _, I2.unlock e (I.nofrz hd mu), q⟩
  | ret v => obtain ⟨x, σ', H', I2, r, e, q⟩ := q; exact ⟨x, σ', _, I2.unlock e (I.nofrz hd mu), r, q⟩
/-! ### one iterator just laid -/
end

/-! ### range with a step -/
section
variable {X : Cx} {tg : Expr}
end
/-! ### reversed(list) -/
section
variable {X : Cx} {tg : Expr}
end

/-! ### a str -/
/-! ### a dict's keys: any dict's entries -/
section
variable {prog : Program} {w : World} {A : Around} {E : Value → Shared → Prop} {s : Shared}
end

/-! ### a locked dict -/
section
variable {X : Cx} {pins : List (Addr × Obj)} {σ : St} {H : Hp} {s : Shared} {d : Addr} {o : Obj}
end

section
variable {P : Program} {w : World} {K : PySem.W.Frag} {tg : Expr} {d : Addr} {o : Obj} {es : Array DictEntry} {ep : Nat}
end

/-! ### for k in d, d.keys(), d.values(), d.items() -/
section
variable {X : Cx} {tg e : Expr} {td : TE} {apos cpos : Pos}
end

/-! ### enumerate(list) -/
/-- the list at a as it stands at each turn, each item in a new pair -/
def Ite (K : PySem.W.Frag) (a : Addr) : It :=
  ⟨fun i H => ∃ (xs : List V) (x : V), SqL K H a xs ∧ xs[i]? = some x, fun i H v H' => ∃ T x, v = .ref T ∧ H T = none ∧ H' = upd H T (.tup [.int (i : Nat), x]) ∧ ∀ xs, SqL K H a xs → xs[i]? = some x, fun i H => ∃ xs : List V, SqL K H a xs ∧ xs.length ≤ i⟩
theorem turn_enum {P : Program} {w : World} {K : PySem.W.Frag} {elts : List Expr} {kk : Nat} {tpos : Pos} (a e it : Addr) :
    Turn P w K (.Tuple elts kk tpos) (Ite K a) [e, it] e (fun i h => (∃ old, IsEnum h e it ((i : Nat) : Int) old) ∧ h.IsListIter it a i ∧ e ≠ it) where
  mem := by simp
  obj := fun i h st b hb => by
    obtain ⟨⟨old, he⟩, ⟨o, ho, hc, hd⟩, _⟩ := st
    have e' : b = e ∨ b = it := by simpa using hb
    rcases e' with z | z
    · rw [z]; exact ⟨_, he, fun v q => nomatch q⟩
    · rw [z]; exact ⟨o, ho, fun v q => by rw [hd] at q; cases q⟩
  keep := fun i h h' st k => let ⟨⟨old, he⟩, hi, hne⟩ := st; ⟨⟨old, k e (by simp) _ he⟩, hi.at fun o q => k it (by simp) o q, hne⟩
  item := by
    intro X hP hw hK hc i pins s σ H E I hf st hg
    subst hP hw hK
    obtain ⟨⟨old, he⟩, hit, hne⟩ := st
    obtain ⟨xs, x, hq, hx⟩ := hg
    obtain ⟨its, rv, p, hz⟩ := I.list hq
    obtain ⟨u, hu, ru⟩ := rv.get hx
    have hel : e < s.heap.objs.size := Heap.lt_size he
    have hil : it < s.heap.objs.size := by obtain ⟨_, q, _⟩ := hit; exact Heap.lt_size q
    refine wpAny_pyNext_enum_item he hit p.isList (x := u) (by simpa using hu) hne fun h' ho hit' hT hsz hk => ?_
    refine ⟨_, rfl, wpAny_letOwnedTupleGo_enum (s := { s with heap := h', toks := s.toks + 1 }) ho fun h'' he' sb => ?_⟩
    have hT2 : h''.get? s.heap.objs.size = some { cls := .type "tuple", data := .seq #[.int i s.toks, u] } := (sb.2 _ (Nat.ne_of_gt hel)).trans hT
    have new : ObjOk X.prog X.w (upd H s.heap.objs.size (.tup [.int (i : Nat), x])) h'' s.heap.objs.size (.tup [.int (i : Nat), x]) :=
      ⟨by show 2 ≤ sizeLine; decide, [.int i s.toks, u], .cons ⟨_, rfl⟩ (.cons ru .nil), ⟨_, hT2, rfl, _, rfl⟩⟩
    have I1 : Inv X pins σ (upd H s.heap.objs.size (.tup [.int (i : Nat), x])) { s with heap := h'', toks := s.toks + 1 } :=
      I.turnedNew (ch := [e, it]) (fun b ob hb q => (sb.2 b (fun z => hb (by simp [z]))).trans (hk b ob (fun z => hb (by simp [z])) (fun z => hb (by simp [z])) q)) hf (Nat.le_refl _) new
    refine ⟨.ref s.heap.objs.size, _, I1, rfl, ⟨_, x, rfl, I.hok.fresh (Nat.le_refl _), rfl, fun ys hy => by rw [I.list_inj hy hq]; exact hx⟩, ⟨⟨u, ?_⟩, hit'.at fun o q => (sb.2 it (Ne.symm hne)).trans q, hne⟩, fun b hb => ?_⟩
    · have e1 : ((i + 1 : Nat) : Int) = (i : Int) + 1 := by omega
      rw [e1]; exact he'
    · have hb' : b < s.heap.objs.size := by
        have e' : b = e ∨ b = it := by simpa using hb
        rcases e' with z | z
        · rw [z]; exact hel
        · rw [z]; exact hil
      rw [upd_ne (Nat.ne_of_lt hb')]
      exact (hf b hb).1
  done := by
    intro X hP hw hK hc i pins s σ H E I hf st hg
    subst hP hw hK
    obtain ⟨⟨old, he⟩, hit, hne⟩ := st
    obtain ⟨xs, hq, hx⟩ := hg
    obtain ⟨its, rv, p, hz⟩ := I.list hq
    obtain ⟨f0, f1, f2, f3, f4, f5⟩ := hf it (by simp)
    have hl := rv.length
    exact wpAny_pyNext_enum_end (I.ok.hd hc) he hit p.isList (by simp; omega) fun h' eb => ⟨rfl, I.turned (t' := s.toks) (fun b o hb q => eb b o hb q) f0 f1 f3 f4 f5⟩
  self := fun A i s Q E st h => let ⟨⟨_, he⟩, _⟩ := st; wpAny_pyIter_enum he h
def iEnum (K : PySem.W.Frag) (ta : TA) : TI := fun σ H R => ta σ H fun vs H1 => ∃ a xs, vs = [.ref a] ∧ SqL K H1 a xs ∧ R (Ite K a) H1
theorem pi_enum {X : Cx} {e : Expr} {ta : TA} {p pos tpos : Pos} {elts : List Expr} {kk : Nat} (hg : Gl X "enumerate") (hm : X.mg "enumerate" = none) (ha : PA X [e] ta) (hs : starEach [e] X.env = [(false, eval e X.env)] := by rfl) :
    PI X (.Tuple elts kk tpos) (.Call (.Name "enumerate" p) [e] [] pos) (iEnum X.K ta) := by
  intro pins s σ H R I h
  refine Call_ (ld_blt I hg hm boot_enumerate (PyProof.Rows.callWith_type1 (thn (ha pos pins s σ H _ I h) fun us s1 ⟨vs, H1, I1, r1, q1⟩ => ?_) hs rfl))
  obtain ⟨a, xs, ex, hq, q⟩ := q1
  subst ex
  cases r1 with
  | cons r rr =>
    cases rr
    cases r
    obtain ⟨its, rv, p', hz⟩ := I1.list hq
    refine call_enumerate_list p'.isList fun h' he hit hsz hk => wpAny_pyIter_enum he ?_
    have I2 : Inv X pins σ H1 { s1 with heap := h' } := I1.kept (t' := s1.toks) hk
    refine ⟨s1.heap.objs.size + 1, [s1.heap.objs.size + 1, s1.heap.objs.size], _, _, H1, rfl, I2, turn_enum a (s1.heap.objs.size + 1) s1.heap.objs.size, ⟨⟨.none, he⟩, hit, Nat.succ_ne_self _⟩, fun b hb => ?_, q⟩
    have e' : b = s1.heap.objs.size + 1 ∨ b = s1.heap.objs.size := by simpa using hb
    have hle : s1.heap.objs.size ≤ b := by
      rcases e' with z | z
      · rw [z]; exact Nat.le_add_right _ _
      · rw [z]; exact Nat.le_refl _
    exact I1.fpOk hle (I1.hok.fresh hle)
/-! ### zip(list, list) -/
end L2

section 
namespace Bits
open PySem PyProof.Rows

end Bits
end 

section 
namespace TL
open PySem PySem.Builtin PySem.Builtin.Str PySem.StrLaws

/-! ### the list functions -/
/-! ### the model's split and partition are these -/
/-! ### computing spl and par -/
/-! ### digits -/
/-! ### words: x.split() -/
end TL
end 

namespace L2
open PySem PySem.Spec PyProof.Rows

section
variable {X : Cx} {pins : List (Addr × Obj)} {σ : St} {H : Hp} {s : Shared} {Q : VK}
end

section
variable {X : Cx}

/-! ### of a text alone -/
/-! ### of a text and a text -/
end

section
variable {X : Cx} {o e : Expr} {to te : TE}
end
end L2

namespace L2
open PySem PySem.Spec PyProof.Rows

section
variable {X : Cx}
end

/-! ### slices of a text -/
end L2

namespace Att
open PySem PySem.W PySem.Calls PyProof.Rows

/-! ### the script -/
/-! ### the attachment: holds_open's last premise (the goal 'hc' behind k_head) from a wpAny of the law's body -/
/-! ### rules over ANY heap (no ledger) from facts about the written part K: the library's own take a ledger (News) for what they write -/
section
variable {prog : Program} {w : World} {A : Around} {E : Value → Shared → Prop} {s : Shared} {K : Frag}

/-! the whole heap as the ledger: makes every rule that writes through a ledger a rule over any heap -/
end
end Att

namespace L2
open PySem PySem.Spec PyProof.Rows

end L2

namespace L2
open PySem PySem.Spec PyProof.Rows

end L2

/- THE LAST THEOREM (shape; LID, My.* are yours):
   My.Adr: a structure of the addresses that your layer names (classes, functions); My.Txt K t: a structure (Prop) of the equations over K;
   My.txt_mk : {K} {implicit addresses ..} (e1 : nsIn K mainGlobals "law" = some (some (.ref f))) (e2 : K.lookup f = some ⟨oc, od, .func (fnOf "law" "law" params body scope dV kV doc pm an cdv ct), sl⟩) (e3 : codeIn K cdv "law" = true) .. : ∃ t, My.Txt K t

set_option maxRecDepth 100000 in
set_option maxHeartbeats 0 in
theorem PySem.Challenge.cw_LID_holds : PySem.Challenge.rw_LID.Holds := by
  w_on; o_law; k_head; (case hw => w_witness2)
  k_fill
  refine L2.walk_of (l := PySem.Challenge.rw_LID) (n := 63) (k := 40) (x := "script") (CX := fun w => ..) (sp := fun _ => My.sp_law) rfl (by decide) rfl ⟨rfl, by decide, by decide⟩ (fun w h Y => PySem.W.kIn_of Y) ?F ?S ?C
  case F =>
    intro w mg fa h KX G hmg
    have T : ∃ t, My.Txt (L2.KOf KX) t := by
      dsimp only [L2.KOf]                          -- K must stand as «<heap const> w.params» for k_is
      refine' My.txt_mk ?e1 ?e2 ?e3 ..
      (case e1 => PySem.W.k_is)                    -- in the order: a name -> its address -> its object -> its parts
      (case e2 => PySem.W.k_is)
      ..
    obtain ⟨t, T⟩ := T
    have e0 := hmg.symm.trans (PySem.W.mg_of KX G T.law)
    cases e0                                       -- fa is the law's own address
    exact ⟨_, fun s u => .of_eq rfl, fun base kb nb => My.law_fn T kb nb⟩     -- if «.of_eq rfl» comes too early: refine' ⟨_, ?b, fun base kb nb => My.law_fn T kb nb⟩; exact fun s u => .of_eq rfl
  case S => exact fun w H a ns hl hO hS => ..
  case C => exact ..
(the tactic k_is has no namespace: write k_is) -/

/-! SHORT WORDS over the layer: a def of the text, its body, what a loop and a test want. -/
namespace L2
open PySem PySem.Spec PyProof.Rows

/-! ### the text by places -/
/-- the j-th statement of a class's body -/
def inClass (s : Stmt) (j : Nat) : Stmt := match s with
  | .ClassDef _ _ _ body _ _ _ _ _ _ _ => body.getD j (.Pass ⟨0, 0, 0, 0⟩)
  | _ => .Pass ⟨0, 0, 0, 0⟩
def defArgs (s : Stmt) : Arguments := match s with
  | .FunctionDef _ a _ _ _ _ _ _ _ _ => a
  | _ => { posonlyargs := [], args := [], vararg := none, kwonlyargs := [], kw_defaults := [], kwarg := none, defaults := [] }
def defBody (s : Stmt) : List Stmt := match s with
  | .FunctionDef _ _ b _ _ _ _ _ _ _ => b
  | _ => []
def defScope (s : Stmt) : Scope := match s with
  | .FunctionDef _ _ _ _ _ _ sc _ _ _ => sc
  | _ => { kind := .function, names := [], isGenerator := false, isCoroutine := false }

/-! ### no exception leaves a def -/
abbrev CX0 : CXT := fun _ _ _ _ _ _ => False
abbrev E0 : XK := fun _ _ _ => False
theorem pass0 {X : Cx} : Passes CX0 X E0 := fun _ _ _ _ _ _ _ h => h.elim

/-! ### a def (or method) of the text as it stands behind the top -/
structure Fun (K : PySem.W.Frag) (x qual : Str) (st : Stmt) (f : Addr) (fd : FuncData) : Prop where
  ex : ∃ (oc : Value) (od : Option Addr) (kV doc pm : Value) (an : Option Addr) (cdv ct : Value) (osl : Array (Option Value)),
    fd = PySem.W.fnOf x qual (defArgs st) (defBody st) (defScope st) .none kV doc pm an cdv ct ∧ K.lookup f = some ⟨oc, od, .func fd, osl⟩ ∧ PySem.W.codeIn K cdv qual = true
  kp : PySem.W.keepIn K (.ref f) = true
section
variable {P : Program} {w : World} {K : PySem.W.Frag} {mg : Str → Option Value} {base : Heap}
/-- THE RULE for a def: its body as a term of rules, and the reading of that term -/
theorem Fun.ok {x qual : Str} {st : Stmt} {f : Addr} {fd : FuncData} {N ps : List Str} {k : Nat} {sp : Sp} (F : Fun K x qual st f fd) (S : FnScope N ps (defScope st)) (len : ∀ vs H Q E, sp vs H Q E → vs.length = ps.length)
    (hbody : ∀ (cdv : Value) (A : Around) (outer : List Env) (s : Shared) (H : Hp) (vs : List V) (Q : VK) (E : XK), Room k (A.deeper (envOfC qual (defScope st) s.heap.objs.size f cdv)) → sp vs H Q E →
      ∃ t, PSs (cxOf CX0 P w K mg base N qual (defScope st) f cdv A outer s H E).nox (defBody st) t ∧ t { nx := fun _ H' => Q .non H', rt := Q } (start N vs) H) : FnOk P w K mg base CX0 (k + 1) f fd ps sp := by
  obtain ⟨oc, od, kV, doc, pm, an, cdv, ct, osl, rfl, lk, hcd⟩ := F.ex
  refine fn_of lk hcd S len fun A outer s H vs Q E hr hsp => ?_
  obtain ⟨t, h, q⟩ := hbody cdv A outer s H vs Q E hr hsp
  exact ⟨t, h.nox, q⟩
/-- how its arguments bind (no defaults): h is «fun _ _ _ _ _ _ us hl => match us, hl with | [_, _], _ => rfl», one _ a parameter -/
theorem Fun.binds {x qual : Str} {st : Stmt} {f : Addr} {fd : FuncData} {ps : List Str} (F : Fun K x qual st f fd)
    (h : ∀ (kV doc pm : Value) (an : Option Addr) (cdv ct : Value) (us : List Value), us.length = ps.length → bindArgs (PySem.W.fnOf x qual (defArgs st) (defBody st) (defScope st) .none kV doc pm an cdv ct) ⟨us, []⟩ = pure (ps.zip us)) : Binds K fd ps [] := by
  obtain ⟨oc, od, kV, doc, pm, an, cdv, ct, osl, rfl, lk, hcd⟩ := F.ex
  exact .all (h kV doc pm an cdv ct)
theorem fun_mk {x qual : Str} {st : Stmt} {f : Addr} {oc : Value} {od an : Option Addr} {osl : Array (Option Value)} {kV doc pm cdv ct : Value} (l : K.lookup f = some ⟨oc, od, .func (PySem.W.fnOf x qual (defArgs st) (defBody st) (defScope st) .none kV doc pm an cdv ct), osl⟩)
    (c : PySem.W.codeIn K cdv qual = true) (k : PySem.W.keepIn K (.ref f) = true) : Fun K x qual st f (PySem.W.fnOf x qual (defArgs st) (defBody st) (defScope st) .none kV doc pm an cdv ct) := ⟨⟨oc, od, kV, doc, pm, an, cdv, ct, osl, rfl, l, c⟩, k⟩
end
/-! ### expressions in short: the name that stands in the i-th slot -/
section
variable {X : Cx}
theorem pv (i : Nat) {x : Str} {pos : Pos} (hN : X.N[i]? = some x := by rfl) (hv : Vis X.env.scope x := by first | exact Or.inl rfl | exact Or.inr (Or.inl rfl) | exact Or.inr (Or.inr rfl)) (hd : (x == ("__debug__" : Str)) = false := by decide)
    (hcd : (x == ("__classdict__" : Str)) = false := by decide) : PE X (.Name x pos) (tVar i) := pe_var hN hv hd hcd
end

/-! ### tests -/
theorem iteF {A B : Prop} (h : B) : if false = true then A else B := by
  rw [if_neg Bool.false_ne_true]
  exact h
theorem iteT {A B : Prop} (h : A) : if true = true then A else B := by
  rw [if_pos rfl]
  exact h
theorem ite2 {c A B : Prop} [Decidable c] (h1 : c → A) (h2 : ¬ c → B) : if c then A else B := by
  by_cases h : c
  · rw [if_pos h]
    exact h1 h
  · rw [if_neg h]
    exact h2 h
/-! ### heaps -/
/-- all that was tracked is as it was -/
def Same (H H' : Hp) : Prop := ∀ b o, H b = some o → H' b = some o
theorem Same.refl (H : Hp) : Same H H := fun _ _ h => h
theorem Same.seq {K : PySem.W.Frag} {H H' : Hp} {a : Addr} {xs : List V} (e : Same H H') (h : SqL K H a xs) : SqL K H' a xs := by
  rcases h with (h | ⟨o, h⟩) | h
  · exact .inl (.inl (e _ _ h))
  · exact .inl (.inr ⟨o, e _ _ h⟩)
  · exact .inr h

/-! ### a dict's pairs: keys that differ -/
section
variable {κ : Type} [DecidableEq κ]
end
/-! ### lists -/
theorem at_of {xs : List V} {z : Int} {j : Nat} {v : V} (e : z = (j : Int)) (h : xs[j]? = some v) : atI xs z = some v := by
  rw [e]
  exact atI_nat h
end L2

section
set_option Elab.async false
set_option linter.all false
set_option maxRecDepth 100000
set_option maxHeartbeats 2000000
namespace L2
open PySem PySem.Spec PyProof.Rows
open PySem.W (WData Codec OpenSpec Well WellAll ReadsW ReadsAllW)
/-! ### an answer as data -/
mutual
/-- x stands for the datum d, lists and tuples all the way -/
inductive Dw (K : PySem.W.Frag) (H : Hp) : V → WData → Prop
  | non : Dw K H .non .none
  | bl (b : Bool) : Dw K H (.bl b) (.bool b)
  | int (i : Int) : Dw K H (.int i) (.int i)
  | str (x : Str) : Dw K H (.str x) (.str x)
  | byt (b : Array UInt8) : Dw K H (.byt b) (.bytes b.toList)
  | lst {a : Addr} {xs : List V} {ds : List WData} : SqL K H a xs → DwAll K H xs ds → Dw K H (.ref a) (.list ds)
  | tup {a : Addr} {xs : List V} {ds : List WData} : SqT K H a xs → DwAll K H xs ds → Dw K H (.ref a) (.tuple ds)
inductive DwAll (K : PySem.W.Frag) (H : Hp) : List V → List WData → Prop
  | nil : DwAll K H [] []
  | cons {v : V} {vs : List V} {d : WData} {ds : List WData} : Dw K H v d → DwAll K H vs ds → DwAll K H (v :: vs) (d :: ds)
end
theorem dw_ints {K : PySem.W.Frag} {H : Hp} : ∀ ns : List Int, DwAll K H (ns.map V.int) (ns.map WData.int)
  | [] => .nil
  | n :: r => .cons (.int n) (dw_ints r)
theorem ints_dw {K : PySem.W.Frag} {H : Hp} : ∀ (ns : List Int) (xs : List V), DwAll K H xs (ns.map WData.int) → xs = ns.map V.int
  | [], xs, h => by
    cases h
    rfl
  | n :: r, xs, h => by
    cases h with
    | cons h1 h2 =>
      cases h1
      rw [ints_dw r _ h2] <;> rfl
section
variable {P : Program} {w : World} {K : PySem.W.Frag} {H : Hp} {h : Heap} {R : PySem.W.WRecords} {cl : Str → Option Addr}
theorem sqL_at {a : Addr} {xs : List V} (hok : HOk P w H h) (KX : K.In h) (q : SqL K H a xs) : ∃ (its : List Value) (o : Obj) (n : Nat), Vals xs its ∧ h.get? a = some o ∧ o.cls = .type "list" ∧ o.data = .seq its.toArray n := by
  rcases q with q | ⟨o, its, n, e, hc, _, hd, _, hv⟩
  · obtain ⟨_, its, n, hv, e⟩ := (show ObjOk P w H h a (.lst xs) from q.ok hok)
    exact ⟨its, _, n, hv, e, rfl, rfl⟩
  · exact ⟨its.toList, o, n, hv, KX _ _ e, hc, by simp [hd]⟩
theorem sqT_at {a : Addr} {xs : List V} (hok : HOk P w H h) (KX : K.In h) (q : SqT K H a xs) : ∃ (its : List Value) (o : Obj) (n : Nat), Vals xs its ∧ h.get? a = some o ∧ o.cls = .type "tuple" ∧ o.data = .seq its.toArray n := by
  rcases q with q | ⟨o, its, n, e, hc, hd, _, hv⟩
  · obtain ⟨_, its, hv, o, e, hc, n, hd⟩ := (show ObjOk P w H h a (.tup xs) from q.ok hok)
    exact ⟨its, o, n, hv, e, hc, hd⟩
  · exact ⟨its.toList, o, n, hv, KX _ _ e, hc, by simp [hd]⟩
mutual
theorem Dw.reads (hok : HOk P w H h) (KX : K.In h) : ∀ (d : WData) (v : V) (u : Value), Dw K H v d → RelV v u → ∃ as, ReadsW R cl h u d as
  | .none, _, _, x, r => by
    cases x
    cases r
    exact ⟨_, ReadsW.none⟩
  | .bool b, _, _, x, r => by
    cases x
    cases r
    exact ⟨_, ReadsW.bool b⟩
  | .int i, _, _, x, r => by
    cases x
    obtain ⟨t, rfl⟩ := r
    exact ⟨_, ReadsW.int i t⟩
  | .str s, _, _, x, r => by
    cases x
    obtain ⟨t, rfl⟩ := r
    exact ⟨_, ReadsW.str s t⟩
  | .bytes b, _, _, x, r => by
    cases x
    obtain ⟨t, rfl⟩ := r
    exact ⟨_, ReadsW.bytes _ t⟩
  | .list ds, _, _, x, r => by
    cases x with
    | lst hs ha =>
      cases r
      obtain ⟨its, o, n, rv, ho, hc, hd⟩ := sqL_at hok KX hs
      obtain ⟨as, hr⟩ := Dw.readsAll hok KX ds _ its ha rv
      exact ⟨_, ReadsW.list ho hc hd hr⟩
  | .tuple ds, _, _, x, r => by
    cases x with
    | tup hs ha =>
      cases r
      obtain ⟨its, o, n, rv, ho, hc, hd⟩ := sqT_at hok KX hs
      obtain ⟨as, hr⟩ := Dw.readsAll hok KX ds _ its ha rv
      exact ⟨_, ReadsW.tuple ho hc hd hr⟩
  | .float _, _, _, x, _ => by cases x
  | .dict _, _, _, x, _ => by cases x
  | .bytearray _, _, _, x, _ => by cases x
  | .set _, _, _, x, _ => by cases x
  | .frozenset _, _, _, x, _ => by cases x
  | .obj _ _, _, _, x, _ => by cases x
theorem Dw.readsAll (hok : HOk P w H h) (KX : K.In h) : ∀ (ds : List WData) (vs : List V) (us : List Value), DwAll K H vs ds → Vals vs us → ∃ as, ReadsAllW R cl h us ds as
  | [], _, _, x, r => by
    cases x
    cases r
    exact ⟨_, ReadsAllW.nil⟩
  | d :: ds, _, _, x, r => by
    cases x with
    | cons h1 h2 =>
      cases r with
      | cons r1 r2 =>
        obtain ⟨as, q1⟩ := Dw.reads hok KX d _ _ h1 r1
        obtain ⟨bs, q2⟩ := Dw.readsAll hok KX ds _ _ h2 r2
        exact ⟨_, ReadsAllW.cons q1 q2⟩
end
end
/-! ### the arguments -/
mutual
/-- data that a codec tells -/
def plW : WData → Bool
  | .none => true
  | .bool _ => true
  | .int _ => true
  | .str _ => true
  | .bytes _ => true
  | .list xs => plWs xs
  | .tuple xs => plWs xs
  | _ => false
def plWs : List WData → Bool
  | [] => true
  | x :: r => plW x && plWs r
end
theorem plWs_map {α : Type} {f : α → WData} (h : ∀ a, plW (f a) = true) : ∀ l : List α, plWs (l.map f) = true
  | [] => rfl
  | x :: r => by
    show (plW (f x) && plWs (r.map f)) = true
    rw [h x, plWs_map h r] <;> rfl
theorem pl_enc : ∀ (c : Codec) (a : c.denote), plW (c.enc a) = true
  | .unit, _ => rfl
  | .bool, _ => rfl
  | .int _ _, _ => rfl
  | .nat _ _, _ => rfl
  | .u8, _ => rfl
  | .bytes _ _, _ => rfl
  | .text _ _ _ _, _ => rfl
  | .list _ _ c, a => plWs_map (fun x => pl_enc c x) a
  | .pair c d, a => by
    show (plW (c.enc a.1) && (plW (d.enc a.2) && true)) = true
    rw [pl_enc c a.1, pl_enc d a.2] <;> rfl
  | .triple c d e, a => by
    show (plW (c.enc a.1) && (plW (d.enc a.2.1) && (plW (e.enc a.2.2) && true))) = true
    rw [pl_enc c a.1, pl_enc d a.2.1, pl_enc e a.2.2] <;> rfl
  | .option c, none => rfl
  | .option c, some x => pl_enc c x
theorem pl_encAll : ∀ (cs : List Codec) (a : Codec.denoteAll cs), plWs (Codec.encAll cs a) = true
  | [], _ => rfl
  | c :: cs, a => by
    show (plW (c.enc a.1) && plWs (Codec.encAll cs a.2)) = true
    rw [pl_enc c a.1, pl_encAll cs a.2] <;> rfl
theorem weight_mem : ∀ {xs : List WData} {d : WData}, d ∈ xs → d.weight ≤ WData.weightAll xs
  | [], d, h => absurd h (by simp)
  | x :: r, d, h => by
    show d.weight ≤ x.weight + 1 + WData.weightAll r
    rcases List.mem_cons.mp h with e | m
    · rw [e]
      omega
    · have z := weight_mem m
      omega
def toV : Value → V
  | .none => .non
  | .bool b => .bl b
  | .int i _ => .int i
  | .str x _ => .str x
  | .bytes b _ => .byt b
  | .ref a => .ref a
  | _ => .non
/-- a value of the arguments, its objects among A -/
def OkU (A : List Addr) : Value → Prop
  | .none => True
  | .bool _ => True
  | .int _ _ => True
  | .str _ _ => True
  | .bytes _ _ => True
  | .ref a => a ∈ A
  | _ => False
theorem OkU.mono {A B : List Addr} (h : ∀ a ∈ A, a ∈ B) : ∀ {u : Value}, OkU A u → OkU B u := fun {u} x => by
  cases u with
  | ref a => exact h a x
  | none => trivial
  | bool b => trivial
  | int i t => trivial
  | str s t => trivial
  | bytes b t => trivial
  | _ => exact False.elim x
theorem relV_toV {A : List Addr} {u : Value} (x : OkU A u) : RelV (toV u) u := by
  cases u with
  | ref a => rfl
  | none => rfl
  | bool b => rfl
  | int i t => exact ⟨t, rfl⟩
  | str s t => exact ⟨t, rfl⟩
  | bytes b t => exact ⟨t, rfl⟩
  | _ => exact False.elim x
theorem vals_toV {A : List Addr} : ∀ {vs : List Value}, (∀ u ∈ vs, OkU A u) → Vals (vs.map toV) vs
  | [], _ => .nil
  | u :: r, h => .cons (relV_toV (h u (List.mem_cons_self ..))) (vals_toV fun x hx => h x (List.mem_cons_of_mem _ hx))
/-- an object of the arguments -/
def ArgOb (h : Heap) (A : List Addr) (a : Addr) : Prop := ∃ vs : List Value, vs.length ≤ sizeLine ∧ (∀ u ∈ vs, OkU A u) ∧
  (h.get? a = some { cls := .type "list", data := .seq vs.toArray } ∨ h.get? a = some { cls := .type "tuple", data := .seq vs.toArray })
theorem ArgOb.mono {h : Heap} {A B : List Addr} {a : Addr} (k : ∀ a ∈ A, a ∈ B) (x : ArgOb h A a) : ArgOb h B a := by
  obtain ⟨vs, h1, h2, h3⟩ := x
  exact ⟨vs, h1, fun u hu => (h2 u hu).mono k, h3⟩
theorem wellAll_len {P : Params} {h : Heap} : ∀ {vs : List Value} {ds : List WData}, WellAll P h vs ds → vs.length = ds.length
  | _, _, .nil => rfl
  | _, _, .cons _ b => by
    show _ + 1 = _ + 1
    rw [wellAll_len b]
theorem well_list {P : Params} {h : Heap} {v : Value} {ds : List WData} (x : Well P h v (.list ds)) : ∃ (a : Addr) (vs : List Value), v = .ref a ∧ h.get? a = some { cls := .type "list", data := .seq vs.toArray } ∧ WellAll P h vs ds := by
  cases x with
  | list ho hall => exact ⟨_, _, rfl, ho, hall⟩
theorem well_tuple {P : Params} {h : Heap} {v : Value} {ds : List WData} (x : Well P h v (.tuple ds)) : ∃ (a : Addr) (vs : List Value), v = .ref a ∧ h.get? a = some { cls := .type "tuple", data := .seq vs.toArray } ∧ WellAll P h vs ds := by
  cases x with
  | tuple ho hall => exact ⟨_, _, rfl, ho, hall⟩
theorem well_cons {P : Params} {h : Heap} {us : List Value} {d : WData} {ds : List WData} (x : WellAll P h us (d :: ds)) : ∃ (v : Value) (vs : List Value), us = v :: vs ∧ Well P h v d ∧ WellAll P h vs ds := by
  cases x with
  | cons a b => exact ⟨_, _, rfl, a, b⟩
theorem line_of {n : Nat} (h : n ≤ 1048576) : n ≤ sizeLine := Nat.le_trans h (by decide)
section
variable {P : Params} {h : Heap}
mutual
theorem area_one : ∀ (d : WData) (v : Value), Well P h v d → plW d = true → d.weight ≤ 1048576 → ∃ A : List Addr, OkU A v ∧ ∀ a ∈ A, ArgOb h A a
  | .none, _, x, _, _ => by
    cases x
    exact ⟨[], trivial, fun a m => absurd m (by simp)⟩
  | .bool b, _, x, _, _ => by
    cases x
    exact ⟨[], trivial, fun a m => absurd m (by simp)⟩
  | .int i, _, x, _, _ => by
    cases x
    exact ⟨[], trivial, fun a m => absurd m (by simp)⟩
  | .str s, _, x, _, _ => by
    cases x
    exact ⟨[], trivial, fun a m => absurd m (by simp)⟩
  | .bytes b, _, x, _, _ => by
    cases x
    exact ⟨[], trivial, fun a m => absurd m (by simp)⟩
  | .list ds, _, x, p, z => by
    obtain ⟨a, vs, rfl, ho, hall⟩ := well_list x
    have z2 : WData.weightAll ds ≤ 1048576 := z
    obtain ⟨A, h1, h2⟩ := area_all ds _ hall p fun d hd => Nat.le_trans (weight_mem hd) z2
    have k : ∀ b ∈ A, b ∈ a :: A := fun b hb => List.mem_cons_of_mem _ hb
    refine ⟨a :: A, List.mem_cons_self .., fun b hb => ?_⟩
    rcases List.mem_cons.mp hb with e | m
    · rw [e]
      exact ⟨vs, line_of (by rw [wellAll_len hall]; exact Nat.le_trans (PySem.W.length_le_weightAllW ds) z2), fun u hu => (h1 u hu).mono k, .inl ho⟩
    · exact (h2 b m).mono k
  | .tuple ds, _, x, p, z => by
    obtain ⟨a, vs, rfl, ho, hall⟩ := well_tuple x
    have z2 : WData.weightAll ds ≤ 1048576 := z
    obtain ⟨A, h1, h2⟩ := area_all ds _ hall p fun d hd => Nat.le_trans (weight_mem hd) z2
    have k : ∀ b ∈ A, b ∈ a :: A := fun b hb => List.mem_cons_of_mem _ hb
    refine ⟨a :: A, List.mem_cons_self .., fun b hb => ?_⟩
    rcases List.mem_cons.mp hb with e | m
    · rw [e]
      exact ⟨vs, line_of (by rw [wellAll_len hall]; exact Nat.le_trans (PySem.W.length_le_weightAllW ds) z2), fun u hu => (h1 u hu).mono k, .inr ho⟩
    · exact (h2 b m).mono k
  | .float _, _, _, p, _ => Bool.noConfusion (show false = true from p)
  | .dict _, _, _, p, _ => Bool.noConfusion (show false = true from p)
  | .bytearray _, _, _, p, _ => Bool.noConfusion (show false = true from p)
  | .set _, _, _, p, _ => Bool.noConfusion (show false = true from p)
  | .frozenset _, _, _, p, _ => Bool.noConfusion (show false = true from p)
  | .obj _ _, _, _, p, _ => Bool.noConfusion (show false = true from p)
theorem area_all : ∀ (ds : List WData) (vs : List Value), WellAll P h vs ds → plWs ds = true → (∀ d ∈ ds, d.weight ≤ 1048576) → ∃ A : List Addr, (∀ u ∈ vs, OkU A u) ∧ ∀ a ∈ A, ArgOb h A a
  | [], _, x, _, _ => by
    cases x
    exact ⟨[], fun u m => absurd m (by simp), fun a m => absurd m (by simp)⟩
  | d :: ds, _, x, p, z => by
    obtain ⟨v, vs, rfl, x1, x2⟩ := well_cons x
    have q : plW d = true ∧ plWs ds = true := Bool.and_eq_true_iff.mp p
    obtain ⟨A, a1, a2⟩ := area_one d v x1 q.1 (z d (List.mem_cons_self ..))
    obtain ⟨B, b1, b2⟩ := area_all ds vs x2 q.2 fun e he => z e (List.mem_cons_of_mem _ he)
    have kA : ∀ b ∈ A, b ∈ A ++ B := fun b hb => List.mem_append.mpr (.inl hb)
    have kB : ∀ b ∈ B, b ∈ A ++ B := fun b hb => List.mem_append.mpr (.inr hb)
    refine ⟨A ++ B, fun u hu => ?_, fun b hb => ?_⟩
    · rcases List.mem_cons.mp hu with e | m
      · rw [e]
        exact a1.mono kA
      · exact (b1 u m).mono kB
    · rcases List.mem_append.mp hb with m | m
      · exact (a2 b m).mono kA
      · exact (b2 b m).mono kB
end
end
/-- what is tracked of an argument's object -/
def hoOf (o : Obj) : Option HO := match o.data with
  | .seq vs _ => if (o.cls == Value.type "list") = true then some (.frz o (.lst (vs.toList.map toV))) else some (.frz o (.tup (vs.toList.map toV)))
  | _ => none
def argH (K : PySem.W.Frag) (h : Heap) (A : List Addr) : Hp := fun b => if b ∈ A then (if (K.lookup b).isNone = true then (h.get? b).bind hoOf else none) else none
/-- nothing is tracked but what is known to the object -/
def OnlyF (H : Hp) : Prop := ∀ b, H b = none ∨ ∃ o u, H b = some (.frz o u)
theorem hoOf_lst (vs : List Value) : hoOf { cls := .type "list", data := .seq vs.toArray } = some (.frz { cls := .type "list", data := .seq vs.toArray } (.lst (vs.map toV))) := by
  show (if (Value.type "list" == Value.type "list") = true then some (HO.frz { cls := .type "list", data := .seq vs.toArray } (.lst (vs.toArray.toList.map toV))) else some (HO.frz { cls := .type "list", data := .seq vs.toArray } (.tup (vs.toArray.toList.map toV)))) = _
  rw [if_pos (beq_self_eq_true _)]
theorem hoOf_tup (vs : List Value) : hoOf { cls := .type "tuple", data := .seq vs.toArray } = some (.frz { cls := .type "tuple", data := .seq vs.toArray } (.tup (vs.map toV))) := by
  show (if (Value.type "tuple" == Value.type "list") = true then some (HO.frz { cls := .type "tuple", data := .seq vs.toArray } (.lst (vs.toArray.toList.map toV))) else some (HO.frz { cls := .type "tuple", data := .seq vs.toArray } (.tup (vs.toArray.toList.map toV)))) = _
  rw [if_neg (by decide)]
section
variable {P : Program} {w : World} {K : PySem.W.Frag} {h : Heap} {A : List Addr}
theorem argH_at {b : Addr} {o : Obj} (hb : b ∈ A) (hk : K.lookup b = none) (e : h.get? b = some o) : argH K h A b = hoOf o := by
  unfold argH
  rw [if_pos hb, hk, if_pos (show (none : Option Obj).isNone = true from rfl), e] <;> rfl
theorem of_argH {b : Addr} {u : HO} (q : argH K h A b = some u) : b ∈ A ∧ K.lookup b = none := by
  unfold argH at q
  by_cases hb : b ∈ A
  · rw [if_pos hb] at q
    cases hk : K.lookup b with
    | none => exact ⟨hb, rfl⟩
    | some o =>
      rw [hk, if_neg (by simp)] at q
      cases q
  · rw [if_neg hb] at q
    cases q
/-- what stands tracked -/
theorem argH_is (ar : ∀ a ∈ A, ArgOb h A a) {b : Addr} {u : HO} (q : argH K h A b = some u) : K.lookup b = none ∧ ∃ vs : List Value, vs.length ≤ sizeLine ∧ (∀ u ∈ vs, OkU A u) ∧
    ((h.get? b = some { cls := .type "list", data := .seq vs.toArray } ∧ u = .frz { cls := .type "list", data := .seq vs.toArray } (.lst (vs.map toV))) ∨
     (h.get? b = some { cls := .type "tuple", data := .seq vs.toArray } ∧ u = .frz { cls := .type "tuple", data := .seq vs.toArray } (.tup (vs.map toV)))) := by
  obtain ⟨hb, hk⟩ := of_argH q
  obtain ⟨vs, h1, h2, h3⟩ := ar b hb
  refine ⟨hk, vs, h1, h2, ?_⟩
  rcases h3 with e | e
  · rw [argH_at hb hk e, hoOf_lst] at q
    exact .inl ⟨e, (Option.some.inj q).symm⟩
  · rw [argH_at hb hk e, hoOf_tup] at q
    exact .inr ⟨e, (Option.some.inj q).symm⟩
theorem argH_only (ar : ∀ a ∈ A, ArgOb h A a) : OnlyF (argH K h A) := fun b => by
  cases q : argH K h A b with
  | none => exact .inl rfl
  | some u =>
    obtain ⟨_, vs, _, _, ⟨_, e⟩ | ⟨_, e⟩⟩ := argH_is ar q
    · exact .inr ⟨_, _, by rw [e]⟩
    · exact .inr ⟨_, _, by rw [e]⟩
theorem argH_ok (ar : ∀ a ∈ A, ArgOb h A a) : HOk P w (argH K h A) h := fun b u q => by
  obtain ⟨_, vs, h1, h2, ⟨e, rfl⟩ | ⟨e, rfl⟩⟩ := argH_is ar q
  · exact ⟨e, by rw [List.length_map]; exact h1, vs, _, vals_toV h2, e⟩
  · exact ⟨e, by rw [List.length_map]; exact h1, vs, vals_toV h2, _, e, rfl, _, rfl⟩
theorem seq_inj {c c' : Value} {vs us : List Value} (e : (some { cls := c, data := .seq vs.toArray } : Option Obj) = some { cls := c', data := .seq us.toArray }) : c = c' ∧ vs = us := by
  have e1 := Option.some.inj e
  have e2 : c = c' := congrArg Obj.cls e1
  have e3 : Data.seq vs.toArray = Data.seq us.toArray := congrArg Obj.data e1
  injection e3 with e4
  refine ⟨e2, ?_⟩
  have e5 := congrArg Array.toList e4
  simpa using e5
/-- a list argument -/
theorem argL (KX : K.In h) (ar : ∀ a ∈ A, ArgOb h A a) {a : Addr} {vs : List Value} (ha : a ∈ A) (e : h.get? a = some { cls := .type "list", data := .seq vs.toArray }) : (∀ u ∈ vs, OkU A u) ∧ SqL K (argH K h A) a (vs.map toV) := by
  obtain ⟨us, h1, h2, h3⟩ := ar a ha
  have hu : us = vs := by
    rcases h3 with q | q
    · rw [e] at q
      exact (seq_inj q).2.symm
    · rw [e] at q
      exact absurd (Value.type.inj (seq_inj q).1) (by decide)
  subst hu
  refine ⟨h2, ?_⟩
  cases hk : K.lookup a with
  | none => exact .inl (.inr ⟨_, by rw [argH_at ha hk e, hoOf_lst]⟩)
  | some o =>
    have e2 := KX a o hk
    rw [e] at e2
    obtain rfl := Option.some.inj e2
    exact .inr ⟨_, us.toArray, _, hk, rfl, rfl, rfl, by rw [List.size_toArray]; exact h1, by simpa using vals_toV h2⟩
theorem argT (KX : K.In h) (ar : ∀ a ∈ A, ArgOb h A a) {a : Addr} {vs : List Value} (ha : a ∈ A) (e : h.get? a = some { cls := .type "tuple", data := .seq vs.toArray }) : (∀ u ∈ vs, OkU A u) ∧ SqT K (argH K h A) a (vs.map toV) := by
  obtain ⟨us, h1, h2, h3⟩ := ar a ha
  have hu : us = vs := by
    rcases h3 with q | q
    · rw [e] at q
      exact absurd (Value.type.inj (seq_inj q).1) (by decide)
    · rw [e] at q
      exact (seq_inj q).2.symm
  subst hu
  refine ⟨h2, ?_⟩
  cases hk : K.lookup a with
  | none => exact .inl (.inr ⟨_, by rw [argH_at ha hk e, hoOf_tup]⟩)
  | some o =>
    have e2 := KX a o hk
    rw [e] at e2
    obtain rfl := Option.some.inj e2
    exact .inr ⟨_, us.toArray, _, hk, rfl, rfl, by rw [List.size_toArray]; exact h1, by simpa using vals_toV h2⟩
mutual
theorem dw_one {Pm : Params} (KX : K.In h) (ar : ∀ a ∈ A, ArgOb h A a) : ∀ (d : WData) (v : Value), Well Pm h v d → plW d = true → OkU A v → Dw K (argH K h A) (toV v) d
  | .none, _, x, _, _ => by
    cases x
    exact .non
  | .bool b, _, x, _, _ => by
    cases x
    exact .bl b
  | .int i, _, x, _, _ => by
    cases x
    exact .int i
  | .str s, _, x, _, _ => by
    cases x
    exact .str s
  | .bytes b, _, x, _, _ => by
    cases x
    have z := Dw.byt (K := K) (H := argH K h A) b.toArray
    exact z
  | .list ds, _, x, p, hu => by
    obtain ⟨a, vs, rfl, ho, hall⟩ := well_list x
    obtain ⟨h2, hs⟩ := argL KX ar hu ho
    exact .lst hs (dw_all KX ar ds _ hall p h2)
  | .tuple ds, _, x, p, hu => by
    obtain ⟨a, vs, rfl, ho, hall⟩ := well_tuple x
    obtain ⟨h2, hs⟩ := argT KX ar hu ho
    exact .tup hs (dw_all KX ar ds _ hall p h2)
  | .float _, _, _, p, _ => Bool.noConfusion (show false = true from p)
  | .dict _, _, _, p, _ => Bool.noConfusion (show false = true from p)
  | .bytearray _, _, _, p, _ => Bool.noConfusion (show false = true from p)
  | .set _, _, _, p, _ => Bool.noConfusion (show false = true from p)
  | .frozenset _, _, _, p, _ => Bool.noConfusion (show false = true from p)
  | .obj _ _, _, _, p, _ => Bool.noConfusion (show false = true from p)
theorem dw_all {Pm : Params} (KX : K.In h) (ar : ∀ a ∈ A, ArgOb h A a) : ∀ (ds : List WData) (vs : List Value), WellAll Pm h vs ds → plWs ds = true → (∀ u ∈ vs, OkU A u) → DwAll K (argH K h A) (vs.map toV) ds
  | [], _, x, _, _ => by
    cases x
    exact .nil
  | d :: ds, _, x, p, hu => by
    obtain ⟨v, vs, rfl, x1, x2⟩ := well_cons x
    have q : plW d = true ∧ plWs ds = true := Bool.and_eq_true_iff.mp p
    exact .cons (dw_one KX ar d v x1 q.1 (hu _ (List.mem_cons_self ..))) (dw_all KX ar ds vs x2 q.2 fun u m => hu u (List.mem_cons_of_mem _ m))
end
end
/-! ### the call -/
/-! ### the row -/
theorem layable_weight {ds : List WData} (h : WData.layableAll ds = true) : ∀ d ∈ ds, d.weight ≤ 1048576 := fun d hd =>
  (PySem.W.layableW_iff.mp (List.all_eq_true.mp h d hd)).2.2
theorem encAll_len : ∀ (cs : List Codec) (a : Codec.denoteAll cs), (Codec.encAll cs a).length = cs.length
  | [], _ => rfl
  | c :: cs, a => by
    show (Codec.encAll cs a.2).length + 1 = cs.length + 1
    rw [encAll_len cs a.2]
end L2
-- rests on (row put in by the clerk, for the bench that shows a file only what it spells): KE.SpHead KE.OsShapes
end
namespace Mush
open Kh366

/-! ### the row -/
def lexLe (l : List Nat) (i j : Nat) : Prop := l.getD i 0 < l.getD j 0 ∨ (l.getD i 0 = l.getD j 0 ∧ i ≤ j)

theorem pair_range : ∀ {n b a : Nat}, b < a → a < n → [b, a].Sublist (List.range n)
  | 0, _, _, _, h => absurd h (Nat.not_lt_zero _)
  | n + 1, b, a, h1, h2 => by
    rw [List.range_succ]
    by_cases e : a = n
    · subst e
      exact List.Sublist.append (l₁ := [b]) (List.singleton_sublist.mpr (List.mem_range.mpr h1)) (List.Sublist.refl [a])
    · exact (pair_range h1 (by omega)).trans (List.sublist_append_left _ _)
theorem no_both {a b : Nat} : ∀ {l : List Nat}, l.Nodup → [a, b].Sublist l → [b, a].Sublist l → False
  | [], _, h, _ => by cases h
  | x :: r, nd, h1, h2 => by
    have hx : x ∉ r := (List.nodup_cons.mp nd).1
    have hr := (List.nodup_cons.mp nd).2
    cases h1 with
    | cons _ h1 =>
      cases h2 with
      | cons _ h2 => exact no_both hr h1 h2
      | cons_cons _ h2 => exact hx (h1.subset (by simp))
    | cons_cons _ h1 =>
      cases h2 with
      | cons _ h2 => exact hx (h2.subset (by simp))
      | cons_cons _ h2 => exact hx (h2.subset (by simp))

section
variable (l : List Nat)
def le (i j : Nat) : Bool := decide (l.getD i 0 ≤ l.getD j 0)
theorem le_trans' (a b c : Nat) (h1 : le l a b = true) (h2 : le l b c = true) : le l a c = true := by
  unfold le at *
  simp only [decide_eq_true_eq] at *
  omega
theorem le_total' (a b : Nat) : (le l a b || le l b a) = true := by
  unfold le
  simp only [Bool.or_eq_true, decide_eq_true_eq]
  omega
theorem inTurn_eq : inTurn l = (List.range l.length).mergeSort (le l) := rfl
theorem inTurn_perm : (inTurn l).Perm (List.range l.length) := List.mergeSort_perm _ _
theorem inTurn_length : (inTurn l).length = l.length := by rw [(inTurn_perm l).length_eq, List.length_range]
theorem inTurn_nodup : (inTurn l).Nodup := (inTurn_perm l).nodup_iff.mpr List.nodup_range
theorem inTurn_mem {i : Nat} : i ∈ inTurn l ↔ i < l.length := by rw [(inTurn_perm l).mem_iff, List.mem_range]
theorem inTurn_lex : (inTurn l).Pairwise (lexLe l) := by
  rw [List.pairwise_iff_forall_sublist]
  intro a b hs
  have hle := (List.pairwise_iff_forall_sublist.mp (List.pairwise_mergeSort (le_trans' l) (le_total' l) (List.range l.length))) hs
  have hle' : l.getD a 0 ≤ l.getD b 0 := of_decide_eq_true hle
  by_cases e : l.getD a 0 < l.getD b 0
  · exact .inl e
  · have e2 : l.getD a 0 = l.getD b 0 := by omega
    refine .inr ⟨e2, ?_⟩
    by_cases h : a ≤ b
    · exact h
    · exfalso
      have ha : a < l.length := (inTurn_mem l).mp (hs.subset (by simp))
      have h3 : [b, a].Sublist (inTurn l) := List.pair_sublist_mergeSort (le_trans' l) (le_total' l) (show le l b a = true from decide_eq_true (by omega)) (pair_range (by omega) ha)
      exact no_both (inTurn_nodup l) hs h3
/-- what is sorted by width and number is the row -/
theorem inTurn_unique {ns : List Nat} (hp : ns.Perm (List.range l.length)) (hs : ns.Pairwise (lexLe l)) : ns = inTurn l :=
  List.Perm.eq_of_pairwise (le := lexLe l) (fun a b _ _ h1 h2 => by unfold lexLe at h1 h2; omega) hs (inTurn_lex l) (hp.trans (inTurn_perm l).symm)
end

/-! ### packing -/
section
variable (k d : Nat) (l : List Nat)
def fits (r : List Nat) : Bool := decide (k ≤ r.length) && decide (l.getD (r.getD (k - 1) 0) 0 ≤ l.getD (r.headD 0) 0 + d)
def pk (r : List Nat) : List (List Nat) := packs k d l r.length r
theorem packs_nil (n : Nat) : packs k d l n [] = [] := by cases n <;> rfl
theorem packs_cons (n i : Nat) (t : List Nat) : packs k d l (n + 1) (i :: t) = if fits k d l (i :: t) = true then (i :: t).take k :: packs k d l n ((i :: t).drop k) else packs k d l n t := rfl
theorem packs_fuel (hk : 1 ≤ k) : ∀ (n m : Nat) (r : List Nat), r.length ≤ n → r.length ≤ m → packs k d l n r = packs k d l m r
  | _, _, [], _, _ => by rw [packs_nil, packs_nil]
  | 0, _, _ :: _, h, _ => absurd h (by simp)
  | _, 0, _ :: _, _, h => absurd h (by simp)
  | n + 1, m + 1, i :: t, h1, h2 => by
    rw [packs_cons, packs_cons]
    have h1' : t.length ≤ n := by simpa using h1
    have h2' : t.length ≤ m := by simpa using h2
    have e1 := packs_fuel hk n m t h1' h2'
    have e2 := packs_fuel hk n m ((i :: t).drop k) (by rw [List.length_drop, List.length_cons]; omega) (by rw [List.length_drop, List.length_cons]; omega)
    rw [e1, e2]
theorem pk_nil : pk k d l [] = [] := rfl
theorem pk_yes (hk : 1 ≤ k) {r : List Nat} (h : fits k d l r = true) : pk k d l r = r.take k :: pk k d l (r.drop k) := by
  cases r with
  | nil =>
    unfold fits at h
    simp only [List.length_nil, Bool.and_eq_true, decide_eq_true_eq] at h
    omega
  | cons i t =>
    show packs k d l (t.length + 1) (i :: t) = _
    rw [packs_cons, if_pos h]
    congr 1
    exact packs_fuel k d l hk _ _ _ (by rw [List.length_drop, List.length_cons]; omega) (Nat.le_refl _)
theorem pk_no {i : Nat} {t : List Nat} (h : fits k d l (i :: t) = false) : pk k d l (i :: t) = pk k d l t := by
  show packs k d l (t.length + 1) (i :: t) = _
  rw [packs_cons, if_neg (by rw [h]; exact Bool.false_ne_true)]
  rfl
theorem punnetsBy_eq : punnetsBy k d l = pk k d l (inTurn l) := by
  unfold punnetsBy pk
  rw [inTurn_length]
/-- every punnet is a run of the row, k long -/
theorem pk_mem (hk : 1 ≤ k) : ∀ (n : Nat) (r : List Nat), r.length ≤ n → ∀ p ∈ pk k d l r, p.Sublist r ∧ p.length = k ∧ fits k d l p = true
  | _, [], _, p, hp => by rw [pk_nil] at hp; cases hp
  | 0, _ :: _, h, _, _ => absurd h (by simp)
  | n + 1, i :: t, h, p, hp => by
    have ht : t.length ≤ n := by simpa using h
    cases e : fits k d l (i :: t) with
    | false =>
      rw [pk_no k d l e] at hp
      obtain ⟨a, b⟩ := pk_mem hk n t ht p hp
      exact ⟨a.trans (List.sublist_cons_self _ _), b⟩
    | true =>
      rw [pk_yes k d l hk e] at hp
      rcases List.mem_cons.mp hp with rfl | hp
      · have e' := e
        unfold fits at e'
        simp only [Bool.and_eq_true, decide_eq_true_eq] at e'
        have hl : ((i :: t).take k).length = k := by rw [List.length_take]; omega
        refine ⟨List.take_sublist _ _, hl, ?_⟩
        unfold fits
        rw [Bool.and_eq_true, decide_eq_true_eq, decide_eq_true_eq, hl]
        refine ⟨Nat.le_refl _, ?_⟩
        have h1 : ((i :: t).take k).getD (k - 1) 0 = (i :: t).getD (k - 1) 0 := by
          rw [List.getD_eq_getElem?_getD, List.getD_eq_getElem?_getD, List.getElem?_take_of_lt (by omega)]
        have h2 : ((i :: t).take k).headD 0 = (i :: t).headD 0 := by
          cases k with
          | zero => omega
          | succ k => rfl
        rw [h1, h2]
        exact e'.2
      · obtain ⟨a, b⟩ := pk_mem hk n ((i :: t).drop k) (by rw [List.length_drop, List.length_cons]; omega) p hp
        exact ⟨a.trans (List.drop_sublist _ _), b⟩
/-- as many as fit into the row -/
theorem pk_len (hk : 1 ≤ k) : ∀ (n : Nat) (r : List Nat), r.length ≤ n → (pk k d l r).length ≤ r.length
  | _, [], _ => by rw [pk_nil]; exact Nat.le_refl _
  | 0, _ :: _, h => absurd h (by simp)
  | n + 1, i :: t, h => by
    have ht : t.length ≤ n := by simpa using h
    cases e : fits k d l (i :: t) with
    | false =>
      rw [pk_no k d l e]
      have := pk_len hk n t ht
      simp only [List.length_cons]
      omega
    | true =>
      rw [pk_yes k d l hk e]
      have := pk_len hk n ((i :: t).drop k) (by rw [List.length_drop, List.length_cons]; omega)
      have h2 : ((i :: t).drop k).length ≤ t.length := by rw [List.length_drop, List.length_cons]; omega
      simp only [List.length_cons]
      omega
end
theorem punnets_len {k d : Nat} {l : List Nat} (hk : 1 ≤ k) : (punnetsBy k d l).length ≤ l.length := by
  rw [punnetsBy_eq]
  have := pk_len k d l hk _ (inTurn l) (Nat.le_refl _)
  rw [inTurn_length] at this
  exact this
theorem punnets_mem {k d : Nat} {l : List Nat} (hk : 1 ≤ k) {p : List Nat} (hp : p ∈ punnetsBy k d l) : p.Sublist (inTurn l) ∧ p.length = k ∧ fits k d l p = true := by
  rw [punnetsBy_eq] at hp
  exact pk_mem k d l hk _ _ (Nat.le_refl _) p hp
end Mush

namespace Mush
open Kh366

/-! ### the widest and the narrowest of some -/
theorem fold_max : ∀ (l : List Nat) (a m : Nat), (m ∈ l ∨ m = a) → (∀ y ∈ l, y ≤ m) → a ≤ m → l.foldl max a = m
  | [], a, m, h, _, _ => by
    rcases h with h | h
    · cases h
    · exact h.symm
  | x :: r, a, m, h, hl, ha => by
    show r.foldl max (max a x) = m
    have hx := hl x (by simp)
    refine fold_max r (max a x) m ?_ (fun y hy => hl y (by simp [hy])) (by omega)
    rcases h with h | h
    · rcases List.mem_cons.mp h with h | h
      · exact .inr (by omega)
      · exact .inl h
    · exact .inr (by omega)
theorem fold_min : ∀ (l : List Nat) (a m : Nat), (m ∈ l ∨ m = a) → (∀ y ∈ l, m ≤ y) → m ≤ a → l.foldl min a = m
  | [], a, m, h, _, _ => by
    rcases h with h | h
    · cases h
    · exact h.symm
  | x :: r, a, m, h, hl, ha => by
    show r.foldl min (min a x) = m
    have hx := hl x (by simp)
    refine fold_min r (min a x) m ?_ (fun y hy => hl y (by simp [hy])) (by omega)
    rcases h with h | h
    · rcases List.mem_cons.mp h with h | h
      · exact .inr (by omega)
      · exact .inl h
    · exact .inr (by omega)
/-- by how much the widest is wider than the narrowest, by these two -/
theorem spread_mm {a : Abs} {p : List Nat} {M m : Nat} (hM : ∃ i ∈ p, a.caps.getD i 0 = M) (hMl : ∀ i ∈ p, a.caps.getD i 0 ≤ M) (hm : ∃ i ∈ p, a.caps.getD i 0 = m) (hml : ∀ i ∈ p, m ≤ a.caps.getD i 0) : spread a p = M - m := by
  unfold spread
  have e1 : (p.map fun i => a.caps.getD i 0).foldl max 0 = M := by
    refine fold_max _ _ _ (.inl ?_) (fun y hy => ?_) (Nat.zero_le _)
    · obtain ⟨i, hi, e⟩ := hM
      exact List.mem_map.mpr ⟨i, hi, e⟩
    · obtain ⟨i, hi, rfl⟩ := List.mem_map.mp hy
      exact hMl i hi
  have e2 : (p.map fun i => a.caps.getD i 0).foldl min (a.caps.getD (p.headD 0) 0) = m := by
    have hh : p.headD 0 ∈ p := by
      obtain ⟨i, hi, _⟩ := hm
      cases p with
      | nil => cases hi
      | cons x r => exact List.mem_cons_self ..
    refine fold_min _ _ _ (.inl ?_) (fun y hy => ?_) (hml _ hh)
    · obtain ⟨i, hi, e⟩ := hm
      exact List.mem_map.mpr ⟨i, hi, e⟩
    · obtain ⟨i, hi, rfl⟩ := List.mem_map.mp hy
      exact hml i hi
  rw [e1, e2]
/-- a run of the row: its first is the narrowest, its last the widest -/
theorem run_le {l p : List Nat} (h : p.Sublist (inTurn l)) : p.Pairwise fun i j => l.getD i 0 ≤ l.getD j 0 :=
  ((inTurn_lex l).sublist h).imp fun {i j} hij => by unfold lexLe at hij; omega
theorem spread_ends {a : Abs} {p : List Nat} (h : p.Sublist (inTurn a.caps)) {x y : Nat} (hx : p[0]? = some x) (hy : p[p.length - 1]? = some y) : spread a p = a.caps.getD y 0 - a.caps.getD x 0 ∧ a.caps.getD x 0 ≤ a.caps.getD y 0 := by
  have hp := run_le h
  rw [List.pairwise_iff_getElem] at hp
  obtain ⟨x1, x2⟩ := List.getElem?_eq_some_iff.mp hx
  obtain ⟨y1, y2⟩ := List.getElem?_eq_some_iff.mp hy
  have lo : ∀ i ∈ p, a.caps.getD x 0 ≤ a.caps.getD i 0 := fun i hi => by
    obtain ⟨j, hj, rfl⟩ := List.getElem_of_mem hi
    by_cases z : j = 0
    · subst z; rw [x2]; exact Nat.le_refl _
    · have := hp 0 j x1 hj (by omega)
      rw [x2] at this
      exact this
  have hi : ∀ i ∈ p, a.caps.getD i 0 ≤ a.caps.getD y 0 := fun i hi => by
    obtain ⟨j, hj, rfl⟩ := List.getElem_of_mem hi
    by_cases z : j = p.length - 1
    · subst z; rw [y2]; exact Nat.le_refl _
    · have := hp j (p.length - 1) hj y1 (by omega)
      rw [y2] at this
      exact this
  have hxm : x ∈ p := List.mem_of_getElem? hx
  have hym : y ∈ p := List.mem_of_getElem? hy
  exact ⟨spread_mm ⟨y, hym, rfl⟩ hi ⟨x, hxm, rfl⟩ lo, lo y hym⟩

/-! ### the least difference -/
theorem find_range {P : Nat → Bool} {n d : Nat} (hd : d < n) (h : P d = true) (hl : ∀ j, j < d → P j = false) : (List.range n).find? P = some d := by
  rw [List.find?_range_eq_some]
  exact ⟨h, List.mem_range.mpr hd, fun j hj => by rw [hl j hj]; rfl⟩
theorem find_none {P : Nat → Bool} {n : Nat} (hl : ∀ j, j < n → P j = false) : (List.range n).find? P = none := by
  rw [List.find?_eq_none]
  intro j hj
  rw [hl j (List.mem_range.mp hj)]
  exact Bool.false_ne_true
theorem least_some {a : Abs} {n d : Nat} (hd : d ≤ 100) (h : n ≤ countBy a.each d a.caps) (hl : ∀ j, j < d → countBy a.each j a.caps < n) : Kh366.least a n = some d :=
  find_range (by unfold WIDE; omega) (decide_eq_true h) fun j hj => decide_eq_false (by have := hl j hj; omega)
theorem least_none {a : Abs} {n : Nat} (hl : ∀ j, j ≤ 100 → countBy a.each j a.caps < n) : Kh366.least a n = none :=
  find_none fun j hj => decide_eq_false (by have := hl j (by unfold WIDE at hj; omega); omega)

/-! ### the best width more -/
/-- how many come with one more, so wide -/
def withMore (a : Abs) (w : Nat) : Nat := countBy a.each a.differ (a.caps ++ [w])
def bmStep (a : Abs) (o : Option (Nat × Nat)) (w : Nat) : Option (Nat × Nat) := match o with
  | none => some (w + 1, withMore a (w + 1))
  | some x => if x.2 < withMore a (w + 1) then some (w + 1, withMore a (w + 1)) else some x
theorem bestMore_eq (a : Abs) : bestMore a = ((List.range 100).foldl (bmStep a) none).getD (0, 0) := rfl
theorem bm_succ (a : Abs) (j : Nat) : (List.range (j + 1)).foldl (bmStep a) none = bmStep a ((List.range j).foldl (bmStep a) none) j := by
  rw [List.range_succ, List.foldl_append]
  rfl
/-- behind the first j widths: the least of those with which the most come, and how many -/
theorem bm_is (a : Abs) : ∀ j : Nat, 0 < j → ∃ w, 1 ≤ w ∧ w ≤ j ∧ (List.range j).foldl (bmStep a) none = some (w, withMore a w) ∧ (∀ v, 1 ≤ v → v ≤ j → withMore a v ≤ withMore a w) ∧ ∀ v, 1 ≤ v → v < w → withMore a v < withMore a w
  | 0, h => absurd h (Nat.lt_irrefl _)
  | 1, _ => by
    refine ⟨1, Nat.le_refl _, Nat.le_refl _, rfl, fun v h1 h2 => ?_, fun v h1 h2 => by omega⟩
    have e : v = 1 := by omega
    rw [e]
    exact Nat.le_refl _
  | j + 2, _ => by
    obtain ⟨w, h1, h2, h3, h4, h5⟩ := bm_is a (j + 1) (Nat.succ_pos _)
    rw [bm_succ, h3]
    by_cases c : withMore a w < withMore a (j + 2)
    · refine ⟨j + 2, by omega, Nat.le_refl _, if_pos c, fun v v1 v2 => ?_, fun v v1 v2 => ?_⟩
      · by_cases z : v = j + 2
        · subst z; exact Nat.le_refl _
        · have := h4 v v1 (by omega)
          omega
      · have := h4 v v1 (by omega)
        omega
    · refine ⟨w, h1, by omega, if_neg c, fun v v1 v2 => ?_, h5⟩
      by_cases z : v = j + 2
      · subst z; omega
      · exact h4 v v1 (by omega)
/-- best_more by what it is -/
theorem bestMore_of {a : Abs} {w : Nat} (h1 : 1 ≤ w) (h2 : w ≤ 100) (h3 : ∀ v, 1 ≤ v → v ≤ 100 → withMore a v ≤ withMore a w) (h4 : ∀ v, 1 ≤ v → v < w → withMore a v < withMore a w) : bestMore a = (w, withMore a w) := by
  obtain ⟨u, u1, u2, u3, u4, u5⟩ := bm_is a 100 (by decide)
  rw [bestMore_eq, u3]
  show (u, withMore a u) = (w, withMore a w)
  have : u = w := by
    by_cases c : u < w
    · have := h4 u u1 c
      have := u4 w h1 h2
      omega
    · by_cases c2 : w < u
      · have := u5 w h1 c2
        have := h3 u u1 u2
        omega
      · omega
  rw [this]
/-! ### the spread by widths alone; a run of the row fits by its spread -/
def spr (l p : List Nat) : Nat := spread ⟨0, 0, l, []⟩ p
theorem spr_eq (a : Abs) (p : List Nat) : spread a p = spr a.caps p := rfl
theorem pk_short {k d : Nat} {l : List Nat} : ∀ (r : List Nat), r.length < k → pk k d l r = []
  | [], _ => rfl
  | i :: t, h => by
    rw [pk_no k d l (by unfold fits; rw [show decide (k ≤ (i :: t).length) = false from decide_eq_false (by omega), Bool.false_and])]
    exact pk_short t (by rw [List.length_cons] at h; omega)
theorem fits_run {k d : Nat} {l r : List Nat} (hr : r.Sublist (inTurn l)) (hk : 1 ≤ k) (hl : k ≤ r.length) : fits k d l r = decide (spr l (r.take k) ≤ d) := by
  have hs : (r.take k).Sublist (inTurn l) := (List.take_sublist _ _).trans hr
  have tl : (r.take k).length = k := by rw [List.length_take]; omega
  obtain ⟨x, hx⟩ : ∃ x, r[0]? = some x := ⟨_, List.getElem?_eq_getElem (by omega)⟩
  obtain ⟨y, hy⟩ : ∃ y, r[k - 1]? = some y := ⟨_, List.getElem?_eq_getElem (by omega)⟩
  have hx' : (r.take k)[0]? = some x := by rw [List.getElem?_take_of_lt (by omega)]; exact hx
  have hy' : (r.take k)[(r.take k).length - 1]? = some y := by rw [tl, List.getElem?_take_of_lt (by omega)]; exact hy
  obtain ⟨e1, e2⟩ := spread_ends (a := ⟨0, 0, l, []⟩) hs hx' hy'
  have e1' : spr l (r.take k) = l.getD y 0 - l.getD x 0 := e1
  have e2' : l.getD x 0 ≤ l.getD y 0 := e2
  unfold fits
  have f1 : r.getD (k - 1) 0 = y := by rw [List.getD_eq_getElem?_getD, hy]; rfl
  have f2 : r.headD 0 = x := by
    cases r with
    | nil => simp at hx
    | cons z t => simpa using hx
  rw [show decide (k ≤ r.length) = true from decide_eq_true hl, Bool.true_and, f1, f2, e1']
  exact decide_eq_decide.mpr (by omega)
/-- the widest less the narrowest -/
theorem spr_mm {l p : List Nat} {M m : Int} (hM : M ∈ (p.map fun j => l.getD j 0).map Int.ofNat) (hMl : ∀ y, y ∈ (p.map fun j => l.getD j 0).map Int.ofNat → y ≤ M)
    (hm : m ∈ (p.map fun j => l.getD j 0).map Int.ofNat) (hml : ∀ y, y ∈ (p.map fun j => l.getD j 0).map Int.ofNat → m ≤ y) : M - m = ((spr l p : Nat) : Int) := by
  have hmM := hml M hM
  obtain ⟨M', h1, rfl⟩ := List.mem_map.mp hM
  obtain ⟨m', h2, rfl⟩ := List.mem_map.mp hm
  obtain ⟨i, hi, ei⟩ := List.mem_map.mp h1
  obtain ⟨j, hj, ej⟩ := List.mem_map.mp h2
  have all : ∀ t ∈ p, Int.ofNat (l.getD t 0) ∈ (p.map fun j => l.getD j 0).map Int.ofNat := fun t ht => List.mem_map.mpr ⟨_, List.mem_map.mpr ⟨t, ht, rfl⟩, rfl⟩
  have e := spread_mm (a := ⟨0, 0, l, []⟩) (p := p) (M := M') (m := m') ⟨i, hi, ei⟩ (fun t ht => Int.ofNat_le.mp (hMl _ (all t ht))) ⟨j, hj, ej⟩ (fun t ht => Int.ofNat_le.mp (hml _ (all t ht)))
  have e' : spr l p = M' - m' := e
  have hmM' : m' ≤ M' := Int.ofNat_le.mp hmM
  rw [e']
  show (M' : Int) - (m' : Int) = _
  omega
end Mush

namespace Mush
open Kh366

/-! ### the calls of a list -/
/-- a call's place, the numbers behind it, the call -/
inductive Req : Int → List Int → Call → Prop
  | begin_ (k d : Nat) : Req 0 [(k : Int), (d : Int)] (.begin_ k d)
  | cap (w : Nat) : Req 1 [(w : Int)] (.cap w)
  | out (i : Nat) : Req 2 [(i : Int)] (.out i)
  | width (i w : Nat) : Req 3 [(i : Int), (w : Int)] (.width i w)
  | each (k : Nat) : Req 4 [(k : Int)] (.each k)
  | differ (d : Nat) : Req 5 [(d : Int)] (.differ d)
  | back : Req 6 [] .back
  | count : Req 7 [] .count
  | punnet (p : Nat) : Req 8 [(p : Int)] (.punnet p)
  | which (i : Nat) : Req 9 [(i : Int)] (.which i)
  | left : Req 10 [] .left
  | isOne (r : List Nat) (h : r.length ≤ 30) : Req 11 ((r.length : Int) :: r.map Int.ofNat) (.isOne r)
  | spread (p : Nat) : Req 12 [(p : Int)] (.spread p)
  | ifDiffer (d : Nat) : Req 13 [(d : Int)] (.ifDiffer d)
  | ifEach (k : Nat) : Req 14 [(k : Int)] (.ifEach k)
  | least (n : Nat) : Req 15 [(n : Int)] (.least n)
  | more (w : Nat) : Req 16 [(w : Int)] (.more w)
  | bestMore : Req 17 [] .bestMore
  | needed : Req 18 [] .needed
  | order : Req 19 [] .order
  | state : Req 20 [] .state

inductive Flat : List Int → List Call → Prop
  | nil : Flat [] []
  | cons {p : Int} {g r : List Int} {c : Call} {cs : List Call} : Req p g c → Flat r cs → Flat (p :: (g ++ r)) (c :: cs)

def ansL (a : Ans) : List Int := a.ret :: a.out.map Int.ofNat
def playedC : Option Abs → List Call → List (List Int)
  | _, [] => []
  | s, c :: r => ansL (doing s c).2 :: playedC (doing s c).1 r

theorem nat_of {x : Int} (h : 0 ≤ x) : x = ((Kh366Neutral.nat x : Nat) : Int) := by unfold Kh366Neutral.nat; omega
theorem nats_of : ∀ {r : List Int}, (∀ x ∈ r, 0 ≤ x) → r = (Kh366Neutral.nats r).map Int.ofNat
  | [], _ => rfl
  | x :: r, h => by
    have h1 := nat_of (h x (by simp))
    have h2 := nats_of (r := r) fun y hy => h y (by simp [hy])
    show x :: r = Int.ofNat (Kh366Neutral.nat x) :: (Kh366Neutral.nats r).map Int.ofNat
    rw [← h2]
    congr 1

theorem shape_inv {p : Int} {n k : Nat} (h : PyKh366.shape p = some (n, k)) :
    (p = 0 ∧ n = 2 ∧ k = 0) ∨ (p = 3 ∧ n = 2 ∧ k = 0) ∨ ((p = 1 ∨ p = 2 ∨ p = 4 ∨ p = 5 ∨ p = 8 ∨ p = 9 ∨ p = 12 ∨ p = 13 ∨ p = 14 ∨ p = 15 ∨ p = 16) ∧ n = 1 ∧ k = 0) ∨
      ((p = 6 ∨ p = 7 ∨ p = 10 ∨ p = 17 ∨ p = 18 ∨ p = 19 ∨ p = 20) ∧ n = 0 ∧ k = 0) ∨ (p = 11 ∧ n = 0 ∧ k = 1) := by
  unfold PyKh366.shape at h
  by_cases e0 : p = 0
  · subst e0
    cases h
    exact .inl ⟨rfl, rfl, rfl⟩
  rw [if_neg e0] at h
  by_cases e1 : p = 1
  · subst e1
    cases h
    exact .inr (.inr (.inl ⟨by simp, rfl, rfl⟩))
  rw [if_neg e1] at h
  by_cases e2 : p = 2
  · subst e2
    cases h
    exact .inr (.inr (.inl ⟨by simp, rfl, rfl⟩))
  rw [if_neg e2] at h
  by_cases e3 : p = 3
  · subst e3
    cases h
    exact .inr (.inl ⟨rfl, rfl, rfl⟩)
  rw [if_neg e3] at h
  by_cases e4 : p = 4
  · subst e4
    cases h
    exact .inr (.inr (.inl ⟨by simp, rfl, rfl⟩))
  rw [if_neg e4] at h
  by_cases e5 : p = 5
  · subst e5
    cases h
    exact .inr (.inr (.inl ⟨by simp, rfl, rfl⟩))
  rw [if_neg e5] at h
  by_cases e6 : p = 6
  · subst e6
    cases h
    exact .inr (.inr (.inr (.inl ⟨by simp, rfl, rfl⟩)))
  rw [if_neg e6] at h
  by_cases e7 : p = 7
  · subst e7
    cases h
    exact .inr (.inr (.inr (.inl ⟨by simp, rfl, rfl⟩)))
  rw [if_neg e7] at h
  by_cases e8 : p = 8
  · subst e8
    cases h
    exact .inr (.inr (.inl ⟨by simp, rfl, rfl⟩))
  rw [if_neg e8] at h
  by_cases e9 : p = 9
  · subst e9
    cases h
    exact .inr (.inr (.inl ⟨by simp, rfl, rfl⟩))
  rw [if_neg e9] at h
  by_cases e10 : p = 10
  · subst e10
    cases h
    exact .inr (.inr (.inr (.inl ⟨by simp, rfl, rfl⟩)))
  rw [if_neg e10] at h
  by_cases e11 : p = 11
  · subst e11
    cases h
    exact .inr (.inr (.inr (.inr ⟨rfl, rfl, rfl⟩)))
  rw [if_neg e11] at h
  by_cases e12 : p = 12
  · subst e12
    cases h
    exact .inr (.inr (.inl ⟨by simp, rfl, rfl⟩))
  rw [if_neg e12] at h
  by_cases e13 : p = 13
  · subst e13
    cases h
    exact .inr (.inr (.inl ⟨by simp, rfl, rfl⟩))
  rw [if_neg e13] at h
  by_cases e14 : p = 14
  · subst e14
    cases h
    exact .inr (.inr (.inl ⟨by simp, rfl, rfl⟩))
  rw [if_neg e14] at h
  by_cases e15 : p = 15
  · subst e15
    cases h
    exact .inr (.inr (.inl ⟨by simp, rfl, rfl⟩))
  rw [if_neg e15] at h
  by_cases e16 : p = 16
  · subst e16
    cases h
    exact .inr (.inr (.inl ⟨by simp, rfl, rfl⟩))
  rw [if_neg e16] at h
  by_cases e17 : p = 17
  · subst e17
    cases h
    exact .inr (.inr (.inr (.inl ⟨by simp, rfl, rfl⟩)))
  rw [if_neg e17] at h
  by_cases e18 : p = 18
  · subst e18
    cases h
    exact .inr (.inr (.inr (.inl ⟨by simp, rfl, rfl⟩)))
  rw [if_neg e18] at h
  by_cases e19 : p = 19
  · subst e19
    cases h
    exact .inr (.inr (.inr (.inl ⟨by simp, rfl, rfl⟩)))
  rw [if_neg e19] at h
  by_cases e20 : p = 20
  · subst e20
    cases h
    exact .inr (.inr (.inr (.inl ⟨by simp, rfl, rfl⟩)))
  rw [if_neg e20] at h
  cases h
theorem len0 {α : Type} {l : List α} (h : l.length = 0) : l = [] := List.length_eq_zero_iff.mp h
theorem len1 {α : Type} {l : List α} (h : l.length = 1) : ∃ x, l = [x] := List.length_eq_one_iff.mp h
theorem len2 {α : Type} {l : List α} (h : l.length = 2) : ∃ x y, l = [x, y] := by
  match l, h with
  | [x, y], _ => exact ⟨x, y, rfl⟩
theorem inside_lo {lo hi x : Int} (h : PyInside.within lo hi x = true) : lo ≤ x := by
  unfold PyInside.within at h
  simp only [Bool.and_eq_true, decide_eq_true_eq] at h
  exact h.1
/-- what a call of the list is -/
theorem req_of {c : List (List Int)} (h : PyFlat.okCall PyKh366.shape c) (hb : PyInside.call PyKh366.bound c = true) :
    ∃ p g call, PyFlat.put1 c = p :: g ∧ Req p g call ∧ ∀ s, Kh366Neutral.step s (PyKh366.whole c) = ((doing s call).1, ansL (doing s call).2) := by
  obtain ⟨p, a, xs, rfl, hs⟩ := h
  have one : ∀ {q : Int} {lo hi : Int} {x : Int}, PyKh366.bound q = ([(lo, hi)], []) → PyInside.call PyKh366.bound [[q, x]] = true → lo ≤ x := fun {q lo hi x} e h => by
    have h' : (PyInside.each (PyKh366.bound q).1 [x] && PyInside.lists (PyKh366.bound q).2 []) = true := h
    rw [e, Bool.and_eq_true] at h'
    have h2 : (PyInside.within lo hi x && true) = true := h'.1
    rw [Bool.and_true] at h2
    exact inside_lo h2
  have two : ∀ {q : Int} {lo hi lo' hi' : Int} {x y : Int}, PyKh366.bound q = ([(lo, hi), (lo', hi')], []) → PyInside.call PyKh366.bound [[q, x, y]] = true → lo ≤ x ∧ lo' ≤ y := fun {q lo hi lo' hi' x y} e h => by
    have h' : (PyInside.each (PyKh366.bound q).1 [x, y] && PyInside.lists (PyKh366.bound q).2 []) = true := h
    rw [e, Bool.and_eq_true] at h'
    have h2 : (PyInside.within lo hi x && (PyInside.within lo' hi' y && true)) = true := h'.1
    rw [Bool.and_true, Bool.and_eq_true] at h2
    exact ⟨inside_lo h2.1, inside_lo h2.2⟩
  rcases shape_inv hs with ⟨rfl, hn, hk⟩ | ⟨rfl, hn, hk⟩ | ⟨hp, hn, hk⟩ | ⟨hp, hn, hk⟩ | ⟨rfl, hn, hk⟩
  · obtain ⟨x, y, rfl⟩ := len2 hn
    obtain rfl := len0 hk
    obtain ⟨h1, h2⟩ := two rfl hb
    refine ⟨_, _, _, rfl, ?_, fun s => rfl⟩
    have e := Req.begin_ (Kh366Neutral.nat x) (Kh366Neutral.nat y)
    rw [← nat_of h1, ← nat_of h2] at e
    exact e
  · obtain ⟨x, y, rfl⟩ := len2 hn
    obtain rfl := len0 hk
    obtain ⟨h1, h2⟩ := two rfl hb
    refine ⟨_, _, _, rfl, ?_, fun s => rfl⟩
    have e := Req.width (Kh366Neutral.nat x) (Kh366Neutral.nat y)
    rw [← nat_of h1, ← nat_of h2] at e
    exact e
  · obtain ⟨x, rfl⟩ := len1 hn
    obtain rfl := len0 hk
    rcases hp with rfl | rfl | rfl | rfl | rfl | rfl | rfl | rfl | rfl | rfl | rfl
    · have h1 := one rfl hb
      have e := Req.cap (Kh366Neutral.nat x)
      rw [← nat_of h1] at e
      exact ⟨_, _, _, rfl, e, fun s => rfl⟩
    · have h1 := one rfl hb
      have e := Req.out (Kh366Neutral.nat x)
      rw [← nat_of h1] at e
      exact ⟨_, _, _, rfl, e, fun s => rfl⟩
    · have h1 := one rfl hb
      have e := Req.each (Kh366Neutral.nat x)
      rw [← nat_of h1] at e
      exact ⟨_, _, _, rfl, e, fun s => rfl⟩
    · have h1 := one rfl hb
      have e := Req.differ (Kh366Neutral.nat x)
      rw [← nat_of h1] at e
      exact ⟨_, _, _, rfl, e, fun s => rfl⟩
    · have h1 := one rfl hb
      have e := Req.punnet (Kh366Neutral.nat x)
      rw [← nat_of h1] at e
      exact ⟨_, _, _, rfl, e, fun s => rfl⟩
    · have h1 := one rfl hb
      have e := Req.which (Kh366Neutral.nat x)
      rw [← nat_of h1] at e
      exact ⟨_, _, _, rfl, e, fun s => rfl⟩
    · have h1 := one rfl hb
      have e := Req.spread (Kh366Neutral.nat x)
      rw [← nat_of h1] at e
      exact ⟨_, _, _, rfl, e, fun s => rfl⟩
    · have h1 := one rfl hb
      have e := Req.ifDiffer (Kh366Neutral.nat x)
      rw [← nat_of h1] at e
      exact ⟨_, _, _, rfl, e, fun s => rfl⟩
    · have h1 := one rfl hb
      have e := Req.ifEach (Kh366Neutral.nat x)
      rw [← nat_of h1] at e
      exact ⟨_, _, _, rfl, e, fun s => rfl⟩
    · have h1 := one rfl hb
      have e := Req.least (Kh366Neutral.nat x)
      rw [← nat_of h1] at e
      exact ⟨_, _, _, rfl, e, fun s => rfl⟩
    · have h1 := one rfl hb
      have e := Req.more (Kh366Neutral.nat x)
      rw [← nat_of h1] at e
      exact ⟨_, _, _, rfl, e, fun s => rfl⟩
  · obtain rfl := len0 hn
    obtain rfl := len0 hk
    rcases hp with rfl | rfl | rfl | rfl | rfl | rfl | rfl
    · exact ⟨_, _, _, rfl, .back, fun s => rfl⟩
    · exact ⟨_, _, _, rfl, .count, fun s => rfl⟩
    · exact ⟨_, _, _, rfl, .left, fun s => rfl⟩
    · exact ⟨_, _, _, rfl, .bestMore, fun s => rfl⟩
    · exact ⟨_, _, _, rfl, .needed, fun s => rfl⟩
    · exact ⟨_, _, _, rfl, .order, fun s => rfl⟩
    · exact ⟨_, _, _, rfl, .state, fun s => rfl⟩
  · obtain rfl := len0 hn
    obtain ⟨r, rfl⟩ := len1 hk
    have hb' : (true && (decide (0 ≤ r.length) && decide (r.length ≤ 30) && r.all (PyInside.within 0 4294967295) && true)) = true := hb
    simp only [Bool.true_and, Bool.and_true, Bool.and_eq_true, decide_eq_true_eq] at hb'
    have h0 : ∀ x ∈ r, 0 ≤ x := fun x hx => inside_lo (List.all_eq_true.mp hb'.2 x hx)
    refine ⟨11, (r.length : Int) :: r, .isOne (Kh366Neutral.nats r), by show (11 : Int) :: ((r.length : Int) :: (r ++ [])) = _; rw [List.append_nil], ?_, fun s => rfl⟩
    have e := Req.isOne (Kh366Neutral.nats r) (by unfold Kh366Neutral.nats; rw [List.length_map]; exact hb'.1.2)
    rw [← nats_of h0] at e
    have e2 : (Kh366Neutral.nats r).length = r.length := by unfold Kh366Neutral.nats; rw [List.length_map]
    rw [e2] at e
    exact e

theorem flat_of : ∀ (raw : List (List (List Int))), (∀ c ∈ raw, PyFlat.okCall PyKh366.shape c) → PyInside.calls PyKh366.bound raw = true →
    ∃ cs, Flat (PyFlat.put raw) cs ∧ cs.length = raw.length ∧ ∀ s, PyFlat.played Kh366Neutral.step s (raw.map PyKh366.whole) = playedC s cs
  | [], _, _ => ⟨[], .nil, rfl, fun _ => rfl⟩
  | c :: raw, h, hb => by
    have hb' : (PyInside.call PyKh366.bound c && PyInside.calls PyKh366.bound raw) = true := hb
    rw [Bool.and_eq_true] at hb'
    obtain ⟨cs, h1, h2, h3⟩ := flat_of raw (fun d hd => h d (List.mem_cons_of_mem _ hd)) hb'.2
    obtain ⟨p, g, call, e1, e2, e3⟩ := req_of (h c (by simp)) hb'.1
    refine ⟨call :: cs, ?_, by simp [h2], fun s => ?_⟩
    · show Flat (PyFlat.put1 c ++ PyFlat.put raw) _
      rw [e1]
      exact .cons e2 h1
    · show (Kh366Neutral.step s (PyKh366.whole c)).2 :: PyFlat.played Kh366Neutral.step (Kh366Neutral.step s (PyKh366.whole c)).1 (raw.map PyKh366.whole) = _
      rw [e3 s, h3]
      rfl
/-- what is asked of a list, and what is due -/
theorem asked_flat {l : List Int} (h : PyKh366.answers_asked l = true) : ∃ cs, Flat l cs ∧ cs.length ≤ 100 ∧ PyKh366.answers l = PyFlat.told (playedC none cs) := by
  unfold PyKh366.answers_asked at h
  cases e : PyFlat.calls PyKh366.shape l.length l with
  | none => rw [e] at h; cases h
  | some raw =>
    rw [e] at h
    have h' : (!raw.isEmpty && PyFlat.atMost 100 raw && PyInside.calls PyKh366.bound raw && Kh366Neutral.asked (raw.map PyKh366.whole) && PyFlat.short 10000000 (PyKh366.answers l)) = true := h
    simp only [Bool.and_eq_true] at h'
    obtain ⟨e1, e2⟩ := PyFlat.put_calls _ _ _ e
    obtain ⟨cs, h1, h2, h3⟩ := flat_of raw e2 h'.1.1.2
    refine ⟨cs, by rw [e1]; exact h1, by rw [h2]; exact of_decide_eq_true h'.1.1.1.2, ?_⟩
    unfold PyKh366.answers PyKh366.calls
    rw [e]
    show PyFlat.told (PyFlat.played Kh366Neutral.step Kh366Neutral.start (raw.map PyKh366.whole)) = _
    rw [h3]
    rfl
theorem told_cons (a : List Int) (l : List (List Int)) : PyFlat.told (a :: l) = ((a.length : Int) :: a) ++ PyFlat.told l := rfl
end Mush

namespace L2
open PySem PySem.Spec PyProof.Rows

/-! ### a thing that stays as it is; a code record -/
def fixO (a : Addr) (o : Obj) : HO := .ext fun h => h.get? a = some o
def codeO (c : Addr) (q : Str) : HO := .ext fun h => h.CodeRec (.ref c) q
theorem fixO_ok {P : Program} {w : World} {H : Hp} {h : Heap} {a : Addr} {o : Obj} (e : h.get? a = some o) : ObjOk P w H h a (fixO a o) :=
  show _ ∧ _ ∧ _ from ⟨e, ⟨o, e⟩, fun _ _ q k => k o q⟩
theorem fixO_get {P : Program} {w : World} {H : Hp} {h : Heap} {a : Addr} {o : Obj} (ok : HOk P w H h) (e : H a = some (fixO a o)) : h.get? a = some o :=
  (show _ ∧ _ ∧ _ from ok a _ e).1
theorem codeO_ok {P : Program} {w : World} {H : Hp} {h : Heap} {c : Addr} {q : Str} (e : h.CodeRec (.ref c) q) : ObjOk P w H h c (codeO c q) := by
  refine (show _ ∧ _ ∧ _ from ⟨e, ?_, ?_⟩)
  · obtain ⟨c', o, _, _, z, r, _⟩ := e
    cases z
    exact ⟨o, r⟩
  · rintro h1 h2 ⟨c', o, vs, t, z, r, d⟩ k
    cases z
    exact ⟨c, o, vs, t, rfl, k o r, d⟩
theorem codeO_get {P : Program} {w : World} {H : Hp} {h : Heap} {c : Addr} {q : Str} (ok : HOk P w H h) (e : H c = some (codeO c q)) : h.CodeRec (.ref c) q :=
  (show _ ∧ _ ∧ _ from ok c _ e).1

/-- the table of a def's code, where the def makes one lambda, at pos: empty, or with that lambda's code -/
def TabOk (H : Hp) (P : Addr) (pos : Pos) (q : Str) : Prop :=
  H P = some (.tbl #[]) ∨ ∃ c', H P = some (.tbl #[rawInt pos.line, rawInt pos.col, .ref c']) ∧ H c' = some (codeO c' q)
/-- all that was tracked but the table is as it was -/
def KeepT (P : Addr) (H H' : Hp) : Prop := ∀ b o, b ≠ P → H b = some o → H' b = some o

/-- what the making of a lambda asks of the base -/
structure LamBase (base : Heap) (mg : Str → Option Value) (c P : Addr) : Prop where
  hd : PySem.W.CodeHd base c P
  bm : ∃ bm o, mg "__builtins__" = some (.ref bm) ∧ bm ≠ builtinsNs ∧ bm ≠ mainGlobals ∧ base.get? bm = some o ∧ o.cls = .type "module" ∧ o.dict = some builtinsNs ∧ o.data = .plain

section
variable {X : Cx} {pins : List (Addr × Obj)} {σ : St} {H : Hp} {s : Shared}
/-- the lambda's object -/
abbrev lamObj (X : Cx) (params : Arguments) (body : Expr) (scope : Scope) (c' : Addr) (pm ctv : Value) : Obj :=
  PySem.W.kla_obj "<lambda>" (X.env.qual ++ "<lambda>") params body scope (cloFrom X.env.cells scope.names []) pm c' ctv
/-- lambda ..: .. -/
def tLam (X : Cx) (P : Addr) (params : Arguments) (body : Expr) (scope : Scope) (pos : Pos) : TE := fun _ H Q => TabOk H P pos (X.env.qual ++ "<lambda>") ∧
  ∀ (H' : Hp) (f c' : Addr) (pm ctv : Value), H f = none → KeepT P H H' → TabOk H' P pos (X.env.qual ++ "<lambda>") → H' f = some (fixO f (lamObj X params body scope c' pm ctv)) → H' c' = some (codeO c' (X.env.qual ++ "<lambda>")) → Q (.ref f) H'
theorem pe_lam {c P : Addr} {params : Arguments} {body : Expr} {scope : Scope} {pos : Pos} (B : LamBase X.base X.mg c P) (hcode : X.env.code = .ref c) (hdef : defaultsOf params X.env = ([], []))
    (hfree : ∀ y ∈ scope.names, y.2 = .free → X.env.kindOf y.1 = some .cell ∨ X.env.kindOf y.1 = some .free) : PE X (.Lambda params body scope pos) (tLam X P params body scope pos) := by
  intro pins s σ H Q I h
  obtain ⟨hT, h⟩ := h
  refine PySem.W.kla_eval hdef ?_
  have hcl : closureFor scope X.env = pure (cloFrom X.env.cells scope.names []) := closure_ok fun y hy hk => I.ok.has y.1 (hfree y hy hk)
  have hg : s.heap.Ns mainGlobals X.mg := I.mod.glob.keeps I.bk
  have C : PySem.W.CodeHd s.heap c P := B.hd.keeps I.bk
  have hPs : ∃ ps, H P = some (.tbl ps) := by
    rcases hT with e | ⟨_, e, _⟩
    · exact ⟨_, e⟩
    · exact ⟨_, e⟩
  have nP : ∀ b o, X.base.get? b = some o → b ≠ P := fun b o e z => by
    obtain ⟨ps, q⟩ := hPs
    have := (I.bs b o e).2
    rw [z, q] at this
    cases this
  have hgP : mainGlobals ≠ P := by
    obtain ⟨o, es, ep, e, _⟩ := I.mod.glob
    exact nP _ _ e
  obtain ⟨bm, ob, b1, b2, b3, b4, b5, b6, b7⟩ := B.bm
  have hb : s.heap.BuiltinsAt X.mg P := ⟨bm, ob, b1, b2, b3, nP _ _ b4, I.bk _ _ b4, b5, b6, b7⟩
  rcases hT with hP | ⟨c', hP, hc'⟩
  · -- made for the first time
    have hP0 : s.heap.get? P = some (PySem.W.tabObj #[]) := I.hok P _ hP
    refine PySem.W.kla_makeFunction hcl I.ok.glob hg hcode C hP0 trivial rfl hgP hb fun c' ctv h' tk hx hge hlt hrec htb => ?_
    have hfr : ∀ b o, s.heap.get? b = some o → b < c' := fun b o e => Nat.lt_of_lt_of_le (Heap.lt_size e) hge
    have Pc : P ≠ c' := Nat.ne_of_lt (hfr _ _ hP0)
    have Pf : P ≠ h'.objs.size := Nat.ne_of_lt (Nat.lt_trans (hfr _ _ hP0) hlt)
    have cf : c' ≠ h'.objs.size := Nat.ne_of_lt hlt
    have nc : H c' = none := I.hok.fresh hge
    have nf : H h'.objs.size = none := I.hok.fresh (Nat.le_trans hge (Nat.le_of_lt hlt))
    have keep : ∀ b o, b ≠ P → s.heap.get? b = some o → (h'.push (lamObj X params body scope c' ((X.mg "__name__").getD .none) ctv)).get? b = some o := fun b o hb e => Heap.get?_push_of_some _ (hx b o hb e)
    have tab' : (h'.push (lamObj X params body scope c' ((X.mg "__name__").getD .none) ctv)).get? P = some (PySem.W.tabObj #[rawInt pos.line, rawInt pos.col, .ref c']) := Heap.get?_push_of_some _ htb
    have rec' : (h'.push (lamObj X params body scope c' ((X.mg "__name__").getD .none) ctv)).CodeRec (.ref c') (X.env.qual ++ "<lambda>") := hrec.push _
    have fun' : (h'.push (lamObj X params body scope c' ((X.mg "__name__").getD .none) ctv)).get? h'.objs.size = some (lamObj X params body scope c' ((X.mg "__name__").getD .none) ctv) := Heap.get?_push_size _ rfl
    have at3 : ∀ b, b ≠ P → b ≠ c' → b ≠ h'.objs.size → upd (upd (upd H P (.tbl #[rawInt pos.line, rawInt pos.col, .ref c'])) c' (codeO c' (X.env.qual ++ "<lambda>"))) h'.objs.size (fixO h'.objs.size (lamObj X params body scope c' ((X.mg "__name__").getD .none) ctv)) b = H b :=
      fun b h1 h2 h3 => by rw [upd_ne h3, upd_ne h2, upd_ne h1]
    have atP : upd (upd (upd H P (.tbl #[rawInt pos.line, rawInt pos.col, .ref c'])) c' (codeO c' (X.env.qual ++ "<lambda>"))) h'.objs.size (fixO h'.objs.size (lamObj X params body scope c' ((X.mg "__name__").getD .none) ctv)) P = some (.tbl #[rawInt pos.line, rawInt pos.col, .ref c']) := by
      rw [upd_ne Pf, upd_ne Pc, upd_same]
    have atc : upd (upd (upd H P (.tbl #[rawInt pos.line, rawInt pos.col, .ref c'])) c' (codeO c' (X.env.qual ++ "<lambda>"))) h'.objs.size (fixO h'.objs.size (lamObj X params body scope c' ((X.mg "__name__").getD .none) ctv)) c' = some (codeO c' (X.env.qual ++ "<lambda>")) := by
      rw [upd_ne cf, upd_same]
    have atf : upd (upd (upd H P (.tbl #[rawInt pos.line, rawInt pos.col, .ref c'])) c' (codeO c' (X.env.qual ++ "<lambda>"))) h'.objs.size (fixO h'.objs.size (lamObj X params body scope c' ((X.mg "__name__").getD .none) ctv)) h'.objs.size = some (fixO h'.objs.size (lamObj X params body scope c' ((X.mg "__name__").getD .none) ctv)) := upd_same
    generalize upd (upd (upd H P (.tbl #[rawInt pos.line, rawInt pos.col, .ref c'])) c' (codeO c' (X.env.qual ++ "<lambda>"))) h'.objs.size (fixO h'.objs.size (lamObj X params body scope c' ((X.mg "__name__").getD .none) ctv)) = H' at at3 atP atc atf
    have old : ∀ b u, H b = some u → b ≠ P → H' b = some u := fun b u e hb => by rw [at3 b hb (ne_of_none e nc) (ne_of_none e nf)]; exact e
    have nPk : ∀ b u, H b = some u → (∀ ps, u ≠ .tbl ps) → b ≠ P := fun b u e hu z => by
      rw [z, hP] at e
      exact hu _ (Option.some.inj e).symm
    have un : Un X.fs [] H H' s.heap (h'.push (lamObj X params body scope c' ((X.mg "__name__").getD .none) ctv)) := by
      have np : ∀ b, H b = none → b ≠ P := fun b n z => by rw [z, hP] at n; cases n
      refine ⟨fun b o e n _ _ => keep b o (np b n) e, fun b o e n _ _ => ⟨o.slots, keep b o (np b n) e⟩, fun b o e n _ => ?_, fun b o e _ => ?_, fun b xs e => old b _ e (nPk b _ e fun _ => nofun), fun b o u e => old b _ e (nPk b _ e fun _ => nofun), fun b ps e => ?_⟩
      · rw [at3 b (np b n) (Nat.ne_of_lt (hfr b o e)) (Nat.ne_of_lt (Nat.lt_trans (hfr b o e) hlt))]
        exact n
      · by_cases hbP : b = P
        · rw [hbP]
          exact ⟨_, tab'⟩
        · exact ⟨o, keep b o hbP e⟩
      · by_cases hbP : b = P
        · subst hbP
          rw [hP] at e
          cases e
          exact ⟨#[rawInt pos.line, rawInt pos.col, .ref c'], by rw [atP]; simp⟩
        · exact ⟨#[], by rw [old b _ e hbP]; simp⟩
    have hok : HOk X.prog X.w H' (h'.push (lamObj X params body scope c' ((X.mg "__name__").getD .none) ctv)) := fun b u e => by
      by_cases h1 : b = h'.objs.size
      · subst h1
        rw [atf] at e
        cases e
        exact fixO_ok fun'
      by_cases h2 : b = c'
      · subst h2
        rw [atc] at e
        cases e
        exact codeO_ok rec'
      by_cases h3 : b = P
      · subst h3
        rw [atP] at e
        cases e
        exact tab'
      rw [at3 b h3 h2 h1] at e
      refine (I.hok b u e).stay (fun c v hc q => keep c v ?_ q) (fun c q => old c _ q (nPk c _ q fun _ => nofun)) fun c xs q => old c _ q (nPk c _ q fun _ => nofun)
      rcases hc with z | z
      · rw [z]; exact h3
      · exact nPk c _ z fun _ => nofun
    exact ⟨.ref h'.objs.size, H', I.un un hok, rfl, h H' h'.objs.size c' _ ctv nf (fun b o hb e => old b o e hb) (.inr ⟨c', atP, atc⟩) atf atc⟩
  · -- made again
    have hP0 : s.heap.get? P = some (PySem.W.tabObj #[rawInt pos.line, rawInt pos.col, .ref c']) := I.hok P _ hP
    refine PySem.W.kla_makeFunctionHit (cv := .ref c') hcl I.ok.glob hg hcode C hP0 trivial (by simp [codeAmong, rawInt]) hb fun ctv h' tk hk hsz => ?_
    have nf : H h'.objs.size = none := I.hok.fresh hsz
    have I2 := I.laid (t' := tk) (a := h'.objs.size) (o := fixO h'.objs.size (lamObj X params body scope c' ((X.mg "__name__").getD .none) ctv)) (h' := h'.push (lamObj X params body scope c' ((X.mg "__name__").getD .none) ctv))
      (fun b u e => Heap.get?_push_of_some _ (hk b u e)) hsz (fixO_ok (Heap.get?_push_size _ rfl))
    refine ⟨.ref h'.objs.size, _, I2, rfl, h _ h'.objs.size c' _ ctv nf (fun b o _ e => by rw [upd_ne (ne_of_none e nf)]; exact e) (.inr ⟨c', ?_, ?_⟩) upd_same ?_⟩
    · rw [upd_ne (ne_of_none hP nf)]; exact hP
    · rw [upd_ne (ne_of_none hc' nf)]; exact hc'
    · rw [upd_ne (ne_of_none hc' nf)]; exact hc'

/-! ### the lambda runs -/
/-- the context of the lambda's body -/
def lamCx (X : Cx) (A : Around) (N : List Str) (scope : Scope) (f c' : Addr) (s : Shared) (H : Hp) : Cx where
  prog := X.prog
  w := X.w
  K := X.K
  mg := X.mg
  base := X.base
  A := A.deeper (PySem.W.envX (X.env.qual ++ "<lambda>") scope s.heap.objs.size f (.ref c') (cloFrom X.env.cells scope.names []))
  N := N
  s_0 := s
  H_0 := H
  env := PySem.W.envX (X.env.qual ++ "<lambda>") scope s.heap.objs.size f (.ref c') (cloFrom X.env.cells scope.names [])
  outer := X.stack
  stack := PySem.W.envX (X.env.qual ++ "<lambda>") scope s.heap.objs.size f (.ref c') (cloFrom X.env.cells scope.names []) :: X.stack
  ex := []
  fn := fun _ => false
  calm := true
  pn := []
  xe := fun _ _ => False
/-- the lambda's names: its parameters first, then what it captures, in the slots of the maker -/
structure LamOk (X : Cx) (N ps : List Str) (caps : List Nat) (scope : Scope) : Prop where
  kind : scope.kind = .function
  co : scope.isCoroutine = false
  gen : scope.isGenerator = false
  nd : N.Nodup
  pre : N.take ps.length = ps
  par : ∀ x ∈ ps, scope.names.lookup x = some .local
  nocell : ∀ y ∈ scope.names, y.2 ≠ .cell
  uniq : ∀ y ∈ scope.names, scope.names.lookup y.1 = some y.2
  free : ∀ y ∈ scope.names, y.2 = .free → X.env.kindOf y.1 = some .cell ∨ X.env.kindOf y.1 = some .free
  cap : ∀ (i : Nat) (x : Str), N[ps.length + i]? = some x → ∃ j, caps[i]? = some j ∧ X.N[j]? = some x ∧ (x, NameKind.free) ∈ scope.names
  len : N.length = ps.length + caps.length
theorem lookup_of_mem {α : Type} : ∀ {l : List (Str × α)} {x : Str} {c : α}, (x, c) ∈ l → (∀ c', (x, c') ∈ l → c' = c) → l.lookup x = some c
  | (y, d) :: r, x, c, h, u => by
    rw [List.lookup_cons]
    cases e : x == y with
    | true =>
      have e' : x = y := eq_of_beq e
      subst e'
      rw [u d (List.mem_cons_self ..)]
    | false =>
      refine lookup_of_mem ?_ fun c' hc' => u c' (List.mem_cons_of_mem _ hc')
      rcases List.mem_cons.mp h with z | z
      · rw [(Prod.mk.inj z).1, beq_self_eq_true] at e
        cases e
      · exact z
theorem mem_of_lookup {α : Type} : ∀ {l : List (Str × α)} {x : Str} {c : α}, l.lookup x = some c → (x, c) ∈ l
  | [], _, _, h => by cases h
  | (y, d) :: r, x, c, h => by
    rw [List.lookup_cons] at h
    cases e : x == y with
    | true =>
      rw [e] at h
      cases h
      rw [eq_of_beq e]
      exact List.mem_cons_self ..
    | false =>
      rw [e] at h
      exact List.mem_cons_of_mem _ (mem_of_lookup h)
/-- a captured name's cell is the maker's -/
theorem clo_lookup {cells : List (Str × Addr)} {names : List (Str × NameKind)} {x : Str} {c : Addr} (h : (cloFrom cells names []).lookup x = some c) (hc : ∀ y ∈ names, y.2 = .free → ∃ c, cells.lookup y.1 = some c) :
    cells.lookup x = some c ∧ (x, NameKind.free) ∈ names := by
  rcases cloFrom_mem (mem_of_lookup h) with z | ⟨z1, z2⟩
  · cases z
  · obtain ⟨c2, e⟩ := hc _ z1 rfl
    rw [e] at z2
    have z3 : c = c2 := z2
    rw [z3]
    exact ⟨e, z1⟩
theorem clo_has {cells : List (Str × Addr)} {names : List (Str × NameKind)} {x : Str} {c : Addr} (hx : (x, NameKind.free) ∈ names) (e : cells.lookup x = some c) : (cloFrom cells names []).lookup x = some c := by
  refine lookup_of_mem ?_ fun c' h => ?_
  · have := cloFrom_has (cells := cells) (acc := []) hx
    rw [e] at this
    exact this
  · rcases cloFrom_mem h with z | ⟨_, z2⟩
    · cases z
    · rw [e] at z2
      exact z2
end
end L2

namespace L2
open PySem PySem.Spec PyProof.Rows
section
variable {X : Cx} {pins : List (Addr × Obj)} {σ : St} {H : Hp} {s : Shared}
theorem zip_at {x : Str} {u : Value} : ∀ {ps : List Str} {us : List Value}, (x, u) ∈ ps.zip us → ∃ i : Nat, ps[i]? = some x ∧ us[i]? = some u
  | [], _, h => by simp at h
  | _ :: _, [], h => by simp at h
  | p :: ps, v :: us, h => by
    rw [List.zip_cons_cons] at h
    rcases List.mem_cons.mp h with z | z
    · cases z
      exact ⟨0, rfl, rfl⟩
    · obtain ⟨i, h1, h2⟩ := zip_at z
      exact ⟨i + 1, h1, h2⟩
theorem at_zip {x : Str} {u : Value} : ∀ {ps : List Str} {us : List Value} {i : Nat}, ps[i]? = some x → us[i]? = some u → (x, u) ∈ ps.zip us
  | [], _, _, h, _ => by simp at h
  | _ :: _, [], _, _, h => by simp at h
  | p :: ps, v :: us, 0, h1, h2 => by
    have e1 : p = x := Option.some.inj h1
    have e2 : v = u := Option.some.inj h2
    subst e1 e2
    exact List.mem_cons_self ..
  | p :: ps, v :: us, i + 1, h1, h2 => List.mem_cons_of_mem _ (at_zip (i := i) h1 h2)
/-- the slots at a lambda's entry -/
def lamSt (vs : List V) (caps : List Nat) (σ : St) : St := vs.map some ++ caps.map fun j => σ.getD j none
theorem lam_inv {A : Around} {N ps : List Str} {caps : List Nat} {scope : Scope} {f c' : Addr} {us : List Value} {vs : List V} {h1 : Heap} {tk : Nat} (I : Inv X pins σ H s) (L : LamOk X N ps caps scope) (hA : A.frames = some X.stack) (hh : A.handled = none)
    (hl : us.length = ps.length) (r : Vals vs us) (hns : h1.Ns s.heap.objs.size fun x => (ps.zip us).reverse.lookup x) (hk : ∀ b o, s.heap.get? b = some o → h1.get? b = some o) :
    Inv (lamCx X A N scope f c' s H) [] (lamSt vs caps σ) H { s with heap := h1, toks := tk } := by
  have hvl : vs.length = ps.length := by rw [r.length]; exact hl
  have clo : ∀ {x : Str} {c : Addr}, (cloFrom X.env.cells scope.names []).lookup x = some c → X.env.cells.lookup x = some c ∧ (x, NameKind.free) ∈ scope.names := fun {x c} e =>
    clo_lookup e fun y hy hf => I.ok.has y.1 (L.free y hy hf)
  have cellK : ∀ {c : Addr} {v : Option Value}, s.heap.IsCell c v → h1.IsCell c v := fun {c v} ⟨o, e, d⟩ => ⟨o, hk c o e, d⟩
  refine ⟨⟨I.ok.mod, L.kind, rfl, rfl, Nat.le_refl _, fun y z c e1 e2 => ?_, fun y hy => ?_, fun y c hf _ => ?_, fun _ => hh, Around.frames_deeper hA, .inr ⟨rfl, rfl⟩, fun b z => ?_, fun b o e => I.bs b o e, ?_, fun b _ _ z => ?_, fun b z => ?_, I.stack, I.stkFree⟩,
    rfl, I.bare, Un.kept hk, ⟨_, hns, fun i y v e1 e2 e3 => ?_⟩, fun y c e => ?_, I.hok.fresh (Nat.le_refl _), fun y c e => I.freeC y c (clo e).1, fun p hp => ?_, I.hok.kept hk, ?_⟩
  · exact I.ok.inj y z c (clo e1).1 (clo e2).1
  · have hy' : scope.names.lookup y = some .cell ∨ scope.names.lookup y = some .free := hy
    rcases hy' with hy' | hy'
    · exact absurd rfl (L.nocell _ (mem_of_lookup hy'))
    · have hm := mem_of_lookup hy'
      obtain ⟨c, e⟩ := I.ok.has y (L.free _ hm rfl)
      exact ⟨c, clo_has hm e⟩
  · exact absurd (show false = true from hf) Bool.false_ne_true
  · exact absurd (show b ∈ ([] : List Addr) from z) (by simp)
  · exact Nat.le_trans I.ok.bsz I.sz
  · exact absurd (show b ∈ ([] : List Addr) from z) (by simp)
  · exact absurd (show b ∈ ([] : List Addr) from z) (by simp)
  · have e1' : N[i]? = some y := e1
    by_cases hi : i < ps.length
    · have hp : ps[i]? = some y := by rw [← L.pre, List.getElem?_take_of_lt hi]; exact e1'
      have hv : vs[i]? = some v := by
        unfold lamSt at e2
        rw [List.getElem?_append_left (by rw [List.length_map, hvl]; exact hi), List.getElem?_map] at e2
        cases q : vs[i]? with
        | none => rw [q] at e2; cases e2
        | some a => rw [q] at e2; cases e2; rfl
      obtain ⟨u, hu, rv⟩ := r.get hv
      have nd : ps.Nodup := by rw [← L.pre]; exact L.nd.sublist (List.take_sublist _ _)
      refine ⟨u, rv, .inl ⟨L.par y (List.mem_of_getElem? hp), ?_⟩⟩
      refine lookup_of_mem (List.mem_reverse.mpr (at_zip hp hu)) fun u' hu' => ?_
      obtain ⟨i', h1', h2'⟩ := zip_at (List.mem_reverse.mp hu')
      have : i' = i := nodup_ix nd h1' hp
      subst this
      rw [hu] at h2'
      exact (Option.some.inj h2').symm
    · obtain ⟨i', rfl⟩ : ∃ i', i = ps.length + i' := ⟨i - ps.length, by omega⟩
      obtain ⟨j, hj, hN, hf⟩ := L.cap i' y e1'
      have hs : σ[j]? = some (some v) := by
        unfold lamSt at e2
        rw [List.getElem?_append_right (by rw [List.length_map, hvl]; omega), List.length_map, hvl, Nat.add_sub_cancel_left, List.getElem?_map, hj] at e2
        have e2' : σ.getD j none = some v := Option.some.inj e2
        rw [List.getD_eq_getElem?_getD] at e2'
        cases q : σ[j]? with
        | none => rw [q] at e2'; cases e2'
        | some a => rw [q] at e2'; have : a = some v := e2'; rw [this]
      have kf := L.free _ hf rfl
      obtain ⟨m, _, hloc⟩ := I.loc
      obtain ⟨u, rv, lk⟩ := hloc j y v hN hs (.inr kf)
      refine ⟨u, rv, .inr ⟨.inr (L.uniq _ hf), ?_⟩⟩
      rcases lk with ⟨k, _⟩ | ⟨_, c, e, z⟩
      · have k' : X.env.kindOf y = some .local := k
        rcases kf with q | q
        · rw [k'] at q; cases q
        · rw [k'] at q; cases q
      · exact ⟨c, clo_has hf e, cellK z⟩
  · obtain ⟨v, z⟩ := I.cell y c (clo e).1
    exact ⟨v, cellK z⟩
  · exact absurd (show p ∈ ([] : List (Addr × Obj)) from hp) (by simp)
  · unfold lamSt
    show _ = N.length
    rw [List.length_append, List.length_map, List.length_map, L.len, hvl]
/-- a call of the lambda, from the state of its maker -/
theorem lam_run {A : Around} {N ps : List Str} {caps : List Nat} {scope : Scope} {params : Arguments} {body : Expr} {f c' : Addr} {pm ctv : Value} {us : List Value} {vs : List V} {te : TE} {Q : VK} (I : Inv X pins σ H s) (L : LamOk X N ps caps scope)
    (hA : A.frames = some X.stack) (hh : A.handled = none) (hroom : A.depth < recursionLimit) (hf : H f = some (fixO f (lamObj X params body scope c' pm ctv))) (hc : H c' = some (codeO c' (X.env.qual ++ "<lambda>")))
    (hbind : bindArgs (PySem.W.kla_fn "<lambda>" (X.env.qual ++ "<lambda>") params body scope (cloFrom X.env.cells scope.names []) pm (.ref c') ctv) ⟨us, []⟩ = pure (ps.zip us)) (hl : us.length = ps.length) (r : Vals vs us)
    (he : PE (lamCx X A N scope f c' s H) body te) (h : te (lamSt vs caps σ) H Q) : wpAny (model X.prog X.w) A (call (.ref f) us) (EP X pins σ Q) (fun _ _ => False) s := by
  refine wpAny_call (PySem.W.kla_callFunE hroom (fixO_get I.hok hf) rfl L.co L.gen rfl (codeO_get I.hok hc) ?_)
  rw [hbind]
  refine wpAny_pure (wpAny_newFunctionEnv L.nocell (fun y hy => L.par _ (List.of_mem_zip hy).1) (fun h1 hns hsb => ⟨I.nolimit.fresh _ hsb, ?_⟩) L.kind)
  show codeAny _ _ (.expr body (PySem.W.envX (X.env.qual ++ "<lambda>") scope s.heap.objs.size f (.ref c') (cloFrom X.env.cells scope.names []))) _ _
  have hk : ∀ b o, s.heap.get? b = some o → h1.get? b = some o := fun b o e => hsb.extBut b o (Nat.ne_of_lt (Heap.lt_size e)) (Heap.get?_push_of_some _ e)
  refine PySem.W.kla_codeExpr (wpAny_mono (he [] _ (lamSt vs caps σ) H Q (lam_inv I L hA hh hl r hns hk) h) (fun u s' q => ?_) fun _ _ z => z.elim)
  obtain ⟨v, H', J, rv, q⟩ := q
  exact ⟨v, H', I.call' (ch := []) J.os J.base J.hok J.bare (fun b z => absurd z (by simp)), rv, q⟩
end
end L2

namespace L2
open PySem PySem.Spec PyProof.Rows
section
variable {X : Cx} {pins rest : List (Addr × Obj)} {σ : St} {H : Hp} {s : Shared}
/-- a pinned object of ours is changed -/
theorem Inv.repin {it : Addr} {o o' : Obj} {h' : Heap} {t' : Nat} (I : Inv X ((it, o) :: rest) σ H s) (hx : it ∈ X.ex ∨ X.s_0.heap.objs.size ≤ it) (hne : ∀ p ∈ X.pn ++ rest, p.1 ≠ it)
    (hs : ∀ b u, b ≠ it → s.heap.get? b = some u → h'.get? b = some u) (e : h'.get? it = some o') (hd : ∀ v, o'.data ≠ .cell v) : Inv X ((it, o') :: rest) σ H { s with heap := h', toks := t' } := by
  have f := I.pin (it, o) (List.mem_append_right _ (List.mem_cons_self ..))
  have I1 : Inv X rest σ H s := I.pins_of fun p hp => I.pin p (List.mem_append_right _ (List.mem_cons_of_mem _ hp))
  have I2 := I1.turned (t' := t') hs f.2.1 f.2.2.1 hx (fun x c hc z => by
    obtain ⟨v, oc, h1, h2⟩ := I.cell x c hc
    rw [z, f.1] at h1
    cases h1
    exact f.2.2.2.2 v h2) hne
  refine I2.pins_of fun p hp => ?_
  rcases List.mem_cons.mp hp with rfl | hp
  · exact ⟨e, f.2.1, f.2.2.1, f.2.2.2.1, hd⟩
  · exact I2.pin p (List.mem_append_right _ hp)
theorem pin_swap {p q : Addr × Obj} (I : Inv X (p :: q :: rest) σ H s) : Inv X (q :: p :: rest) σ H s := I.pins_of fun z hz => I.pin z (List.mem_append_right _ (by
  rcases List.mem_cons.mp hz with rfl | hz
  · exact List.mem_cons_of_mem _ (List.mem_cons_self ..)
  · rcases List.mem_cons.mp hz with rfl | hz
    · exact List.mem_cons_self ..
    · exact List.mem_cons_of_mem _ (List.mem_cons_of_mem _ hz)))
theorem pin_tail {p : Addr × Obj} (I : Inv X (p :: rest) σ H s) : Inv X rest σ H s := I.pins_of fun z hz => I.pin z (List.mem_append_right _ (List.mem_cons_of_mem _ hz))
/-- a pinned list of ours is tracked from here on -/
theorem Inv.adopt {a : Addr} {its : List Value} {n : Nat} {ys : List V} (I : Inv X ((a, seqObj "list" its.toArray n) :: rest) σ H s) (hx : a ∈ X.ex ∨ X.s_0.heap.objs.size ≤ a) (hne : ∀ p ∈ X.pn ++ rest, p.1 ≠ a) (r : Vals ys its) (hz : ys.length ≤ sizeLine) :
    Inv X rest σ (upd H a (.lst ys)) s := by
  have f := I.pin (a, seqObj "list" its.toArray n) (List.mem_append_right _ (List.mem_cons_self ..))
  have I1 : Inv X rest σ H s := pin_tail I
  have na : ∀ b u, H b = some u → b ≠ a := fun b u e => ne_of_none e f.2.1
  refine I1.step (h' := s.heap) (g' := s.gens) (d' := s.drawn) (t' := s.toks) (ch := [a]) (fun b hb => ?_) (fun b o _ _ _ e _ => e) (fun b o _ _ _ e _ => ⟨o.slots, e⟩) (fun b o hb e n => ?_) (fun b o _ e => ⟨o, e⟩)
    (fun b xs e => by rw [upd_ne (na b _ e)]; exact e) (fun b o u e => by rw [upd_ne (na b _ e)]; exact e) (fun b ps e => ⟨#[], by rw [upd_ne (na b _ e), e]; simp⟩) (fun m hm => hm) (fun b u e => ?_) I.bare
  · have e : b = a := by simpa using hb
    subst e
    refine ⟨hx, f.2.2.1, fun x c hc z => ?_, hne⟩
    obtain ⟨v, oc, h1, h2⟩ := I.cell x c hc
    rw [z, f.1] at h1
    cases h1
    exact f.2.2.2.2 v h2
  · rw [upd_ne (fun z => hb (by simp [z]))]
    exact n
  · by_cases hb : b = a
    · subst hb
      rw [upd_same] at e
      cases e
      exact ⟨hz, its, n, r, f.1⟩
    · rw [upd_ne hb] at e
      exact (I.hok b u e).stay (fun c v _ q => q) (fun c q => by rw [upd_ne (na c _ q)]; exact q) fun c xs q => by rw [upd_ne (na c _ q)]; exact q
end

section
variable {prog : Program} {w : World} {A : Around} {E : Value → Shared → Prop} {s : Shared}
/-- the items of a range, collected -/
theorem collect_range {r : Addr} {n : Nat} {t u v : Tok} {Q : List Value → Shared → Prop} (hh : A.handled = none) (hr : IsRange s.heap r 0 n 1 t u v) (hn : n ≤ 1000)
    (h : ∀ (h' : Heap) (tk : Nat) (vs : List Value), (∀ b o, s.heap.get? b = some o → h'.get? b = some o) → vs.length = n → (∀ (i : Nat) (x : Value), vs[i]? = some x → ∃ t, x = .int (i : Int) t) → Q vs { s with heap := h', toks := tk }) :
    wpAny (model prog w) A (collect (.ref r)) Q E s := by
  unfold collect
  refine wpAny_bind (wpAny_runValue (codeAny_builtin entry_proto_collect' ?_))
  show wpAny _ _ (do again (.builtin "list.__iadd__" ⟨[← newList [], .ref r], []⟩)) _ _ s
  refine wpAny_bind (wpAny_newList (wpAny_pure ⟨Code.quiet_builtin _ (by decide +kernel), codeAny_builtin entry_list_iadd' ?_⟩))
  show wpAny _ _ (Builtin.List.listExtendWith (.ref s.heap.objs.size) (.ref r) (.ref s.heap.objs.size)) _ _ { s with heap := s.heap.push (seqObj "list" #[] 0) }
  have hr' : IsRange (s.heap.push (seqObj "list" #[] 0)) r 0 n 1 t u v := Heap.get?_push_of_some _ hr
  have fin : ∀ (h' : Heap) (tk : Nat) (acc : Array Value) (c' : Nat), (∀ b o, b ≠ s.heap.objs.size → (s.heap.push (seqObj "list" #[] 0)).get? b = some o → h'.get? b = some o) → h'.get? s.heap.objs.size = some { cls := .type "list", dict := none, data := .seq acc c', slots := #[] } →
      ItemsOf (fun i v => ∃ t, v = .int (0 + i * 1) t) acc n → wpAny (model prog w) A (do
        let o ← load s.heap.objs.size
        match o.data with
        | .seq xs _ => pure xs.toList
        | _ => unsupported "internal:collect") Q E { s with heap := h', toks := tk } := fun h' tk acc c' hk hS hacc => by
    refine wpAny_bind (wpAny_load hS ?_)
    refine wpAny_pure (h h' tk acc.toList (fun b o e => hk b o (Nat.ne_of_lt (Heap.lt_size e)) (Heap.get?_push_of_some _ e)) (by rw [Array.length_toList]; exact hacc.1) fun i x hx => ?_)
    rw [Array.getElem?_toList] at hx
    obtain ⟨t', e⟩ := hacc.2 i x hx
    exact ⟨t', by rw [e]; congr 1; omega⟩
  refine wpAny_mono (wpAny_extend_range (A := A) (s := { s with heap := s.heap.push (seqObj "list" #[] 0) }) (n := n)
    (R := fun rs s' => rs = .ok (.ret (.ref s.heap.objs.size)) ∧ wpAny (model prog w) A (do
        let o ← load s.heap.objs.size
        match o.data with
        | .seq xs _ => pure xs.toList
        | _ => unsupported "internal:collect") Q E s')
    hh hr' (small_one (a := 0) (b := (n : Int)) (by omega) (by omega) (by omega) (by omega)) (by rw [rangeSize_one]; split <;> omega) (by omega) s.heap.objs.size (.ref s.heap.objs.size) 0 (Heap.get?_push_size _ rfl) fun h' tk acc c' hk hS hacc => ⟨rfl, fin h' tk acc c' hk hS hacc⟩)
    (fun fn s' hq => ?_) fun e s' hq => ?_
  · cases fn with
    | done f =>
      obtain ⟨e, hq⟩ := hq
      cases e
      exact hq
    | again c' =>
      refine ⟨hq.1, codeAny_mono hq.2 fun rs s2 hr2 => ?_⟩
      obtain ⟨rfl, hr2⟩ := hr2
      exact hr2
  · cases hq.1
end

/-- the key function's promise, in the state of the call -/
def KeyP (X : Cx) (σ : St) (H : Hp) (f : Addr) (n : Nat) (g : Int → List Int) : Prop :=
  ∀ (pins : List (Addr × Obj)) (s : Shared) (H' : Hp) (i : Nat) (u : Value), Inv X pins σ H' s → Same H H' → i < n → RelV (.int (i : Int)) u →
    wpAny (model X.prog X.w) X.A.in1.in1 (call (.ref f) [u]) (EP X pins σ fun y H'' => ∃ p, y = .ref p ∧ H' p = none ∧ H'' = upd H' p (.tup ((g i).map V.int))) (fun _ _ => False) s
abbrev keyLt (a b : List Int) : Bool := PyProof.Rows.lexLt itemOrd (a.map Sum.inl) (b.map Sum.inl)
theorem tupItems_ints : ∀ {ns : List Int} {us : List Value} (i : Nat), Vals (ns.map V.int) us → tupItems (fun _ => false) i us = some (ns.map Sum.inl)
  | [], us, i, r => by cases r; rfl
  | n :: ns, us, i, r => by
    cases r with
    | cons r1 r2 =>
      obtain ⟨t, rfl⟩ := r1
      show (if (fun _ => false) i = true then none else (tupItems (fun _ => false) (i + 1) _).map (Sum.inl n :: ·)) = _
      rw [if_neg Bool.false_ne_true, tupItems_ints (i + 1) r2]
      rfl
section
variable {X : Cx} {pins : List (Addr × Obj)} {σ : St} {H : Hp} {s : Shared}
/-- a tracked tuple of ints as a sort key -/
theorem tup_at {H' : Hp} {s' : Shared} {p : Addr} {ns : List Int} (I : Inv X pins σ H' s') (e : H' p = some (.tup (ns.map V.int))) :
    ∃ (o : Obj) (its : List Value) (k : Nat), s'.heap.get? p = some o ∧ o.cls = .type "tuple" ∧ o.data = .seq its.toArray k ∧ Vals (ns.map V.int) its := by
  obtain ⟨_, its, r, o, h1, h2, k, h3⟩ := I.hok p _ e
  exact ⟨o, its, k, h1, h2, h3, r⟩
theorem tupsOf_all {h : Heap} : ∀ {pl : List Addr}, (∀ p ∈ pl, ∃ f, TupOf h (fun _ => false) (.ref p) f) → ∃ fs, TupsOf h (fun _ => false) (pl.map Value.ref) fs ∧ fs.length = pl.length
  | [], _ => ⟨[], .nil, rfl⟩
  | p :: r, k => by
    obtain ⟨f, hf⟩ := k p (List.mem_cons_self ..)
    obtain ⟨fs, h1, h2⟩ := tupsOf_all (pl := r) fun q hq => k q (List.mem_cons_of_mem _ hq)
    exact ⟨f :: fs, .cons hf h1, by simp [h2]⟩
theorem sort_tail {n : Nat} {g : Int → List Int} {a kS : Addr} {e e1 : Nat} {vs : List Value} {pl : List Addr} {H' : Hp} {s' : Shared} {Q : VK} (J : Inv X ((kS, seqObj "list" (pl.map Value.ref).toArray e) :: (a, seqObj "list" #[] e1) :: pins) σ H' s')
    (sm : Same H H') (hkl : (pl.map Value.ref).length = vs.length) (hlen : vs.length = n) (hn : n ≤ 1000) (hvs : ∀ (i : Nat) (x : Value), vs[i]? = some x → ∃ t, x = .int (i : Int) t) (fa : FpOk X pins H a) (fk : FpOk X ((a, seqObj "list" #[] e1) :: pins) H kS)
    (pairAt : ∀ z, z ∈ ((pl.map Value.ref).toArray.zip vs.toArray).toList → ∃ (j : Nat) (t : Tok), z.2 = .int (j : Int) t ∧ tupKey s'.heap (fun _ => false) z.1 = some ((g (j : Int)).map Sum.inl))
    (h : ∀ (H' : Hp) (p : Addr) (ns : List Nat), Same H H' → H p = none → H' p = some (.lst (ns.map fun (i : Nat) => V.int i)) → ns.Perm (List.range n) → ns.Pairwise (fun (i j : Nat) => keyLt (g (j : Int)) (g (i : Int)) = false) → Q (.ref p) H')
    (st : SortSt) (hp : (arrOf st).Perm ((pl.map Value.ref).toArray.zip vs.toArray)) (hs : SortedToK (tupKind s'.heap fun _ => false) (arrOf st) vs.length) (hfl : failedOf st = none) :
    wpAny (model X.prog X.w) X.A.in1.in1 (ksk_tail a false e1 (.ref kS) st) (fun fin s' => ∃ v, fin = .done (.ret v) ∧ wpAny (model X.prog X.w) X.A.in1 (ret (.ref a)) (fun fin s' => ∃ v, fin = .done (.ret v) ∧ EP X pins σ Q v s') X.xe s') X.xe s' := by
  have hzs : ((pl.map Value.ref).toArray.zip vs.toArray).size = vs.length := by rw [Array.size_zip, List.size_toArray, List.size_toArray, hkl, Nat.min_self]
  have hl : pl.length = vs.length := by rw [← hkl, List.length_map]
  have hZ : vs.length ≤ sizeLine := by rw [sizeLine_eq]; omega
  have nk : ∀ p ∈ X.pn ++ ((a, seqObj "list" #[] e1) :: pins), p.1 ≠ kS := fk.2.2.2.2.2
  have hka : kS ≠ a := fun z => nk (a, seqObj "list" #[] e1) (List.mem_append_right _ (List.mem_cons_self ..)) z.symm
  have pk := J.pin (kS, seqObj "list" (pl.map Value.ref).toArray e) (List.mem_append_right _ (List.mem_cons_self ..))
  have pa := J.pin (a, seqObj "list" #[] e1) (List.mem_append_right _ (List.mem_cons_of_mem _ (List.mem_cons_self ..)))
  have hsz : (arrOf st).size = vs.length := by rw [hp.size_eq, hzs]
  have hpl' : ∀ z, z ∈ (arrOf st).toList → ∃ (j : Nat) (t : Tok), z.2 = .int (j : Int) t ∧ tupKey s'.heap (fun _ => false) z.1 = some ((g (j : Int)).map Sum.inl) := fun z hz => pairAt z ((Array.perm_iff_toList_perm.mp hp).mem_iff.mp hz)
  unfold ksk_tail
  try dsimp only
  simp only [Bool.false_eq_true, if_false]
  refine wpAny_bind (listUpdate_at pk.1 rfl ?_ (by rw [List.size_toArray, hkl, sizeLine_eq]; omega) (Nat.zero_le _))
  refine wpAny_bind (wpAny_letGo ?_)
  obtain ⟨c2, hc2⟩ : ∃ c2, (s'.heap.update kS (Obj.mapSeq fun _ => (#[] : Array Value))).get? kS = some (seqObj "list" #[] c2) := ⟨_, get?_update_seq pk.1 fun _ => #[]⟩
  have J1 : Inv X ((kS, seqObj "list" #[] c2) :: (a, seqObj "list" #[] e1) :: pins) σ H' { s' with heap := s'.heap.update kS (Obj.mapSeq fun _ => (#[] : Array Value)) } :=
    J.repin (t' := s'.toks) fk.2.2.2.1 nk (fun b u hb eb => by rw [Heap.get?_update_ne _ _ _ _ hb]; exact eb) hc2 (fun _ => nofun)
  have pa1 := J1.pin (a, seqObj "list" #[] e1) (List.mem_append_right _ (List.mem_cons_of_mem _ (List.mem_cons_self ..)))
  refine wpAny_bind (seqEpoch_at pa1.1 rfl ?_)
  refine wpAny_bind (listUpdate_at pa1.1 rfl ?_ (Nat.zero_le _) (Nat.le_trans (Nat.le_of_eq ((Array.size_map ..).trans hsz)) (by rw [sizeLine_eq]; omega)))
  obtain ⟨c3, hc3⟩ : ∃ c3, ((s'.heap.update kS (Obj.mapSeq fun _ => (#[] : Array Value))).update a (Obj.mapSeq fun _ => (arrOf st).map (·.2))).get? a = some (seqObj "list" ((arrOf st).map (·.2)) c3) :=
    ⟨_, get?_update_seq pa1.1 fun _ => (arrOf st).map (·.2)⟩
  have na2 : ∀ p ∈ X.pn ++ ((kS, seqObj "list" #[] c2) :: pins), p.1 ≠ a := fun p hp => by
    rcases List.mem_append.mp hp with hp | hp
    · exact fa.2.2.2.2.2 p (List.mem_append_left _ hp)
    · rcases List.mem_cons.mp hp with rfl | hp
      · exact hka
      · exact fa.2.2.2.2.2 p (List.mem_append_right _ hp)
  have eo : ((arrOf st).map (·.2)) = (((arrOf st).toList.map (·.2))).toArray := by
    rw [← Array.toList_map, Array.toArray_toList]
  have J2 : Inv X ((a, seqObj "list" (((arrOf st).toList.map (·.2))).toArray c3) :: (kS, seqObj "list" #[] c2) :: pins) σ H' { s' with heap := (s'.heap.update kS (Obj.mapSeq fun _ => (#[] : Array Value))).update a (Obj.mapSeq fun _ => (arrOf st).map (·.2)) } :=
    (pin_swap J1).repin (t' := s'.toks) fa.2.2.2.1 na2 (fun b u hb eb => by rw [Heap.get?_update_ne _ _ _ _ hb]; exact eb) (by rw [← eo]; exact hc3) (fun _ => nofun)
  rw [hfl]
  simp only [bne_self_eq_false, Bool.false_eq_true, if_false]
  have numEq : ∀ z, z ∈ (arrOf st).toList → ∃ t, z.2 = .int (((numOf z.2).toNat : Nat) : Int) t := fun z hz => by
    obtain ⟨j, t, q, _⟩ := hpl' z hz
    rw [q]
    exact ⟨t, rfl⟩
  have hvals : ∀ l : List Keyed, (∀ z ∈ l, ∃ t, z.2 = .int (((numOf z.2).toNat : Nat) : Int) t) → Vals ((l.map fun z => (numOf z.2).toNat).map fun (i : Nat) => V.int i) (l.map (·.2)) := by
    intro l
    induction l with
    | nil => intro _; exact .nil
    | cons z r ih => intro hz; exact .cons (hz z (List.mem_cons_self ..)) (ih fun y hy => hz y (List.mem_cons_of_mem _ hy))
  have nH : H a = none := fa.1
  have nH' : H' a = none := pa.2.1
  have J3 := pin_tail (J2.adopt (ys := ((arrOf st).toList.map fun z => (numOf z.2).toNat).map fun (i : Nat) => V.int i) fa.2.2.2.1 na2 (hvals _ numEq) (by rw [List.length_map, List.length_map, Array.length_toList, hsz]; exact hZ))
  refine wpAny_pure ⟨_, rfl, wpAny_pure ⟨_, rfl, .ref a, _, J3, rfl, h _ a ((arrOf st).toList.map fun z => (numOf z.2).toNat) (fun b o eb => by rw [upd_ne (ne_of_none (sm b o eb) nH')]; exact sm b o eb) nH upd_same ?_ ?_⟩⟩
  · refine ((Array.perm_iff_toList_perm.mp hp).map fun z => (numOf z.2).toNat).trans (List.Perm.of_eq ?_)
    rw [Array.toList_zip, List.toList_toArray, List.toList_toArray]
    refine List.ext_getElem? fun j => ?_
    rw [List.getElem?_map]
    by_cases hj : j < n
    · obtain ⟨p, hpj⟩ : ∃ p, pl[j]? = some p := ⟨_, List.getElem?_eq_getElem (by omega)⟩
      obtain ⟨x, hxj⟩ : ∃ x, vs[j]? = some x := ⟨_, List.getElem?_eq_getElem (by omega)⟩
      have hz : ((pl.map Value.ref).zip vs)[j]? = some (.ref p, x) := by
        rw [List.getElem?_zip_eq_some]
        exact ⟨by rw [List.getElem?_map, hpj]; rfl, hxj⟩
      obtain ⟨t, rfl⟩ := hvs j x hxj
      rw [hz, List.getElem?_range hj]
      rfl
    · rw [List.getElem?_eq_none (by rw [List.length_zip, hkl]; omega), List.getElem?_eq_none (by rw [List.length_range]; omega)]
      rfl
  · rw [List.pairwise_map, List.pairwise_iff_getElem]
    intro i j hi hj hij
    have hi' : i < (arrOf st).size := by rw [Array.length_toList] at hi; exact hi
    have hj' : j < (arrOf st).size := by rw [Array.length_toList] at hj; exact hj
    have q : (tupKind s'.heap fun _ => false).blt (KK (tupKind s'.heap fun _ => false) (arrOf st) j) (KK (tupKind s'.heap fun _ => false) (arrOf st) i) = false := hs i j (Nat.le_of_lt hij) (by omega)
    have kk : ∀ m (hm : m < (arrOf st).size), KK (tupKind s'.heap fun _ => false) (arrOf st) m = (g (((numOf ((arrOf st).toList[m]'(by rw [Array.length_toList]; exact hm)).2).toNat : Nat) : Int)).map Sum.inl := fun m hm => by
      have e0 : (arrOf st)[m]? = some ((arrOf st).toList[m]'(by rw [Array.length_toList]; exact hm)) := by
        rw [← Array.getElem?_toList]
        exact List.getElem?_eq_getElem _
      obtain ⟨j0, t0, q1, q2⟩ := hpl' _ (List.getElem_mem (by rw [Array.length_toList]; exact hm) : (arrOf st).toList[m]'(by rw [Array.length_toList]; exact hm) ∈ (arrOf st).toList)
      unfold KK
      rw [e0]
      show ((tupKey s'.heap (fun _ => false) _).getD _) = _
      rw [q2, q1]
      rfl
    rw [kk i hi', kk j hj'] at q
    exact q
theorem call_sortedK {n : Nat} {g : Int → List Int} {rr f : Addr} {Q : VK} (hc : X.calm = true) (I : Inv X pins σ H s) (hr : H rr = some (.rng 0 n)) (hn : n ≤ 1000) (hg : ∀ i, 0 < (g i).length) (key : KeyP X σ H f n g)
    (h : ∀ (H' : Hp) (p : Addr) (ns : List Nat), Same H H' → H p = none → H' p = some (.lst (ns.map fun (i : Nat) => V.int i)) → ns.Perm (List.range n) → ns.Pairwise (fun (i j : Nat) => keyLt (g (j : Int)) (g (i : Int)) = false) → Q (.ref p) H') :
    wpAny (model X.prog X.w) X.A (call (.builtin "sorted") [.ref rr] [(Str.ofString "key", .ref f)]) (EP X pins σ Q) X.xe s := by
  have hh : X.A.handled = none := I.ok.hd hc
  obtain ⟨t0, u0, v0, hrng⟩ := I.hok rr _ hr
  refine call_function_entry_kw kind_sorted plain_sorted entry_sorted (ksk_s1 _ _) ?_
  unfold Builtin.«sorted»
  refine wpAny_bind (m := checkCount "sorted" 1 1 _) (wpAny_pure ?_)
  refine wpAny_bind (collect_range (A := X.A.in1) hh hrng hn fun h1 tk1 vs hk1 hlen hvs => ?_)
  have hZ : vs.length ≤ sizeLine := by rw [sizeLine_eq]; omega
  refine wpAny_bind (wpAny_newList ?_ hZ)
  -- the new list stands at a
  have I1 : Inv X pins σ H { s with heap := h1, toks := tk1 } := I.kept hk1
  generalize ha : h1.objs.size = a
  have I2 : Inv X pins σ H { s with heap := h1.push (seqObj "list" vs.toArray 0), toks := tk1 } := I1.kept (t' := tk1) fun b o e => Heap.get?_push_of_some _ e
  have hoL : (h1.push (seqObj "list" vs.toArray 0)).get? a = some (seqObj "list" vs.toArray 0) := by rw [← ha]; exact Heap.get?_push_size _ rfl
  show wpAny _ _ (do let _ ← holding [.ref a] (call (.builtin "list.sort") [.ref a] [(Str.ofString "key", .ref f)]); ret (.ref a)) _ _ { s with heap := h1.push (seqObj "list" vs.toArray 0), toks := tk1 }
  have fa : FpOk X pins H a := I1.fpOk (by rw [← ha]; exact Nat.le_refl _) (I1.hok.fresh (by rw [← ha]; exact Nat.le_refl _))
  refine wpAny_bind (wpAny_holding (wpAny_call_entry_kw slot_list_sort ⟨_, hoL, rfl⟩ entry_list_sort ?body (ksk_l1 _ _)))
  case body =>
  show wpAny (model X.prog X.w) X.A.in1.in1 (Builtin.«list.sort» ⟨[.ref a], [(Str.ofString "key", .ref f)]⟩) _ _ _
  rw [ksk_t1]
  unfold ksk_tree
  refine wpAny_bind (listItems_at hoL rfl ?_)
  refine wpAny_bind (listUpdate_at hoL rfl ?_ (by rw [List.size_toArray, sizeLine_eq]; omega) (Nat.zero_le _))
  obtain ⟨e1, ho1⟩ : ∃ e1, ((h1.push (seqObj "list" vs.toArray 0)).update a (Obj.mapSeq fun _ => (#[] : Array Value))).get? a = some (seqObj "list" #[] e1) := ⟨_, get?_update_seq hoL fun _ => #[]⟩
  have I3 : Inv X ((a, seqObj "list" #[] e1) :: pins) σ H { s with heap := (h1.push (seqObj "list" vs.toArray 0)).update a (Obj.mapSeq fun _ => (#[] : Array Value)), toks := tk1 } := by
    have J : Inv X ((a, seqObj "list" vs.toArray 0) :: pins) σ H { s with heap := h1.push (seqObj "list" vs.toArray 0), toks := tk1 } := I2.pins_of fun p hp => by
      rcases List.mem_cons.mp hp with rfl | hp
      · exact ⟨hoL, fa.1, fa.2.1, fa.2.2.1, fun _ => nofun⟩
      · exact I2.pin p (List.mem_append_right _ hp)
    exact J.repin fa.2.2.2.1 fa.2.2.2.2.2 (fun b u hb e => by rw [Heap.get?_update_ne _ _ _ _ hb]; exact e) ho1 (fun _ => nofun)
  generalize (h1.push (seqObj "list" vs.toArray 0)).update a (Obj.mapSeq fun _ => (#[] : Array Value)) = h3 at ho1 I3
  refine wpAny_bind (seqEpoch_at ho1 rfl ?_)
  refine wpAny_bind (wpAny_newTuple ?_ (by show vs.length ≤ _; exact hZ))
  refine wpAny_bind (wpAny_newList ?_ (Nat.zero_le _))
  refine wpAny_holding ?_
  have I4 : Inv X ((a, seqObj "list" #[] e1) :: pins) σ H { s with heap := h3.push (seqObj "tuple" vs.toArray 0), toks := tk1 } := I3.kept (t' := tk1) fun b o e => Heap.get?_push_of_some _ e
  generalize hkS : (h3.push (seqObj "tuple" vs.toArray 0)).objs.size = kS
  have fk : FpOk X ((a, seqObj "list" #[] e1) :: pins) H kS := I4.fpOk (by rw [← hkS]; exact Nat.le_refl _) (I4.hok.fresh (by rw [← hkS]; exact Nat.le_refl _))
  have I5 : Inv X ((kS, seqObj "list" #[] 0) :: (a, seqObj "list" #[] e1) :: pins) σ H { s with heap := (h3.push (seqObj "tuple" vs.toArray 0)).push (seqObj "list" #[] 0), toks := tk1 } := by
    have J : Inv X ((a, seqObj "list" #[] e1) :: pins) σ H { s with heap := (h3.push (seqObj "tuple" vs.toArray 0)).push (seqObj "list" #[] 0), toks := tk1 } := I4.kept (t' := tk1) fun b o e => Heap.get?_push_of_some _ e
    refine J.pins_of fun p hp => ?_
    rcases List.mem_cons.mp hp with rfl | hp
    · exact ⟨by rw [← hkS]; exact Heap.get?_push_size _ rfl, fk.1, fk.2.1, fk.2.2.1, fun _ => nofun⟩
    · exact J.pin p (List.mem_append_right _ hp)
  show wpAny (model X.prog X.w) X.A.in1.in1 (ksk_rest a (.ref f) false vs.toArray e1 (.ref kS)) _ _ { s with heap := (h3.push (seqObj "tuple" vs.toArray 0)).push (seqObj "list" #[] 0), toks := tk1 }
  generalize (h3.push (seqObj "tuple" vs.toArray 0)).push (seqObj "list" #[] 0) = h5 at I5
  have hka : kS ≠ a := fun z => fk.2.2.2.2.2 (a, seqObj "list" #[] e1) (List.mem_append_right _ (List.mem_cons_self ..)) z.symm
  have nk : ∀ p ∈ X.pn ++ ((a, seqObj "list" #[] e1) :: pins), p.1 ≠ kS := fk.2.2.2.2.2
  -- the keys
  unfold ksk_rest
  refine wpAny_bind (wpAny_rule ?_)
  first
    | rw [List.forIn_toArray]
    | (rw [← Array.forIn_toList]; simp only [List.toList_toArray])
    | rw [← Array.forIn_toList]
  refine wpAny_bind (ksk_fold (fun i s' => ∃ (H' : Hp) (pl : List Addr) (e : Nat), Inv X ((kS, seqObj "list" (pl.map Value.ref).toArray e) :: (a, seqObj "list" #[] e1) :: pins) σ H' s' ∧ Same H H' ∧ pl.length = i ∧
      ∀ (j : Nat) (p : Addr), pl[j]? = some p → H' p = some (.tup ((g (j : Int)).map V.int))) vs 0 _ ⟨H, [], 0, I5, Same.refl H, rfl, fun j p e => by simp at e⟩ ?step ?done)
  case step =>
    rintro j x s' hx ⟨H', pl, e, J, sm, hl, hpl⟩
    rw [Nat.zero_add] at hl ⊢
    have hj : j < vs.length := (List.getElem?_eq_some_iff.mp hx).1
    obtain ⟨t, rfl⟩ := hvs j x hx
    refine wpAny_bind (wpAny_attempt (wpAny_mono (key _ s' H' j _ J sm (by omega) ⟨t, rfl⟩) (fun y s2 hq => ?_) fun _ _ z => z.elim))
    obtain ⟨v, H2, J2, rv, p, rfl, np, rfl⟩ := hq
    cases rv
    try dsimp only
    have pk := J2.pin (kS, seqObj "list" (pl.map Value.ref).toArray e) (List.mem_append_right _ (List.mem_cons_self ..))
    obtain ⟨c2, hc2⟩ : ∃ c2, (s2.heap.update kS (Obj.mapSeq (·.push (.ref p)))).get? kS = some (seqObj "list" ((pl.map Value.ref).toArray.push (.ref p)) c2) := ⟨_, get?_update_seq pk.1 (·.push (.ref p))⟩
    have ea : (pl.map Value.ref).toArray.push (.ref p) = ((pl ++ [p]).map Value.ref).toArray := by simp
    rw [ea] at hc2
    refine wpAny_bind (listUpdate_at pk.1 rfl ?_ (by rw [List.size_toArray, List.length_map, sizeLine_eq]; omega) (by rw [Array.size_push, List.size_toArray, List.length_map, sizeLine_eq]; omega))
    refine wpAny_pure ⟨rfl, upd H' p (.tup ((g (j : Int)).map V.int)), pl ++ [p], c2, ?_, fun b o eb => by rw [upd_ne (ne_of_none (sm b o eb) np)]; exact sm b o eb, by rw [List.length_append, hl]; rfl, fun j' p' ej => ?_⟩
    · exact J2.repin fk.2.2.2.1 nk (fun b u hb eb => by rw [Heap.get?_update_ne _ _ _ _ hb]; exact eb) hc2 (fun _ => nofun)
    · by_cases hjj : j' < pl.length
      · rw [List.getElem?_append_left hjj] at ej
        have := hpl j' p' ej
        rw [upd_ne (ne_of_none this np)]
        exact this
      · rw [List.getElem?_append_right (by omega)] at ej
        have hj0 : j' - pl.length = 0 := by
          by_cases z : j' - pl.length = 0
          · exact z
          · rw [List.getElem?_eq_none (by simp; omega)] at ej
            cases ej
        rw [hj0] at ej
        have ep : p = p' := Option.some.inj ej
        have ejj : j' = j := by omega
        subst ep ejj
        exact upd_same
  case done =>
    rintro s' ⟨H', pl, e, J, sm, hl, hpl⟩
    rw [Nat.zero_add] at hl
    have pk := J.pin (kS, seqObj "list" (pl.map Value.ref).toArray e) (List.mem_append_right _ (List.mem_cons_self ..))
    have pa := J.pin (a, seqObj "list" #[] e1) (List.mem_append_right _ (List.mem_cons_of_mem _ (List.mem_cons_self ..)))
    refine wpAny_bind (listItems_at pk.1 rfl ?_)
    -- the pairs and their keys
    have hkl : (pl.map Value.ref).length = vs.length := by rw [List.length_map]; exact hl
    have hzs : ((pl.map Value.ref).toArray.zip vs.toArray).size = vs.length := by rw [Array.size_zip, List.size_toArray, List.size_toArray, hkl, Nat.min_self]
    have keyAt : ∀ (j : Nat) (p : Addr), pl[j]? = some p → tupKey s'.heap (fun _ => false) (.ref p) = some ((g (j : Int)).map Sum.inl) := fun j p ej => by
      obtain ⟨o, its, k, q1, _, q3, q4⟩ := tup_at J (hpl j p ej)
      show (match s'.heap.get? p with | some o => (match o.data with | .seq xs _ => tupItems (fun _ => false) 0 xs.toList | _ => none) | none => none) = _
      rw [q1]
      show (match o.data with | .seq xs _ => tupItems (fun _ => false) 0 xs.toList | _ => none) = _
      rw [q3]
      show tupItems (fun _ => false) 0 its.toArray.toList = _
      rw [List.toList_toArray]
      exact tupItems_ints 0 q4
    have pairAt : ∀ z, z ∈ ((pl.map Value.ref).toArray.zip vs.toArray).toList → ∃ (j : Nat) (t : Tok), z.2 = .int (j : Int) t ∧ tupKey s'.heap (fun _ => false) z.1 = some ((g (j : Int)).map Sum.inl) := fun z hz => by
      rw [Array.toList_zip, List.toList_toArray, List.toList_toArray] at hz
      obtain ⟨j, hj⟩ := List.getElem?_of_mem hz
      rw [List.getElem?_zip_eq_some] at hj
      obtain ⟨q1, q2⟩ := hj
      rw [List.getElem?_map] at q1
      cases q3 : pl[j]? with
      | none => rw [q3] at q1; cases q1
      | some p =>
        rw [q3] at q1
        have q4 : Value.ref p = z.1 := Option.some.inj q1
        obtain ⟨t, q5⟩ := hvs j z.2 q2
        exact ⟨j, t, q5, by rw [← q4]; exact keyAt j p q3⟩
    have KO : KeysOf (tupKind s'.heap fun _ => false) ((pl.map Value.ref).toArray.zip vs.toArray) := fun z hz => by
      obtain ⟨j, t, _, q⟩ := pairAt z hz
      exact ⟨_, q⟩
    -- the end: what is sorted is laid back
    have tail := fun st hp hs hfl => sort_tail J sm hkl hlen hn hvs fa fk pairAt h st hp hs hfl
    unfold ksk_end
    try dsimp only
    have step : ∀ (t : Sem PySem.Fin) (P : PySem.Fin → Shared → Prop), wpAny (model X.prog X.w) X.A.in1.in1 t P X.xe s' → wpAny (model X.prog X.w) X.A.in1.in1 (if false = true then (do let _ ← rule "list.sort.reverse"; t) else t) P X.xe s' := by
      intro t P ht
      rw [if_neg Bool.false_ne_true]
      exact ht
    refine step _ _ ?_
    by_cases h2 : vs.toArray.size < 2
    · rw [if_pos h2, if_pos h2]
      refine wpAny_bind (wpAny_pure ?_)
      rw [StateT.run_pure]
      refine wpAny_bind (wpAny_pure ?_)
      try dsimp only
      refine tail (SortSt.mk' general' (if false = true then ((pl.map Value.ref).toArray.zip vs.toArray).reverse else (pl.map Value.ref).toArray.zip vs.toArray) #[] 7 none) (Array.Perm.refl _) ?_ rfl
      intro i j hij hj
      rw [List.size_toArray] at h2
      have : i = j := by omega
      subst this
      exact KeyOrd.kle_refl _
    · rw [if_neg h2, if_neg h2]
      rw [List.size_toArray] at h2
      obtain ⟨fs, hT, hfl⟩ := tupsOf_all (h := s'.heap) (pl := pl) fun p hp => by
        obtain ⟨j, hj⟩ := List.getElem?_of_mem hp
        obtain ⟨o, its, k, q1, q2, q3, q4⟩ := tup_at J (hpl j p hj)
        have hgj := hg (j : Int)
        cases eg : g (j : Int) with
        | nil => rw [eg] at hgj; simp at hgj
        | cons n0 r0 =>
          rw [eg] at q4
          cases q4 with
          | cons r1 r2 =>
            obtain ⟨t1, rfl⟩ := r1
            exact ⟨_, p, o, _, k, rfl, q1, q2, q3, rfl, fun _ => ⟨n0, t1, rfl⟩, fun z => absurd z Bool.false_ne_true⟩
      refine wpAny_bind (tup_kind (by omega) hT ?_)
      refine wpAny_bind (wpAny_mono (PyProof.Rows.G.wpS_sortRunsSt (κ := tupKind s'.heap fun _ => false) (kd := tuples' true) (a₀ := (pl.map Value.ref).toArray.zip vs.toArray)
        (st := SortSt.mk' (tuples' true) (if false = true then ((pl.map Value.ref).toArray.zip vs.toArray).reverse else (pl.map Value.ref).toArray.zip vs.toArray) #[] 7 none)
        (Q := fun _ st' => (arrOf st').Perm ((pl.map Value.ref).toArray.zip vs.toArray) ∧ failedOf st' = none ∧ SortedToK (tupKind s'.heap fun _ => false) (arrOf st') vs.length)
        (fun A E x y as bs {Q} hx hy hq => tup_ltAt true A E x y as bs hx hy hq) KO ⟨Array.Perm.refl _, rfl, rfl⟩ rfl (Stable.refl _) (by rw [hzs]; omega) fun st' a1 a2 a3 _ => ⟨a1, a2, by rw [hzs] at a3; exact a3⟩) ?_ fun _ _ z => z)
      rintro ⟨⟨⟩, st'⟩ s2 ⟨rfl, hp, hf, hs⟩
      try dsimp only
      exact tail st' hp hs hf
end
end L2

namespace L2
open PySem PySem.Spec PyProof.Rows
section
variable {X : Cx}
/-- range(n) as a value -/
def rRange : List V → Hp → VK → Prop := fun xs H Q => ∃ j : Int, xs = [.int j] ∧ ∀ p, H p = none → Q (.ref p) (upd H p (.rng 0 j))
theorem cr_range : CallR X (.type "range") rRange := by
  intro pins s σ H xs us Q I r h
  obtain ⟨j, rfl, h⟩ := h
  cases r with
  | cons r rr =>
    cases rr
    obtain ⟨t, rfl⟩ := r
    exact call_range_1 ⟨.ref s.heap.objs.size, _, I.laid (o := .rng 0 j) (fun b o e => Heap.get?_push_of_some _ e) (Nat.le_refl _) (show ∃ t u v, _ from ⟨_, _, _, Heap.get?_push_size _ rfl⟩), rfl, h _ I.fresh⟩
/-- sorted(range(..), key = a lambda) -/
def tSK (X : Cx) (te tl : TE) : TE := fun σ H Q => te σ H fun x0 H1 => ∃ x, [x0] = [x] ∧ tl σ H1 fun y H2 => ∃ (rr f : Addr) (n : Nat) (g : Int → List Int), x = .ref rr ∧ y = .ref f ∧ H2 rr = some (.rng 0 n) ∧ n ≤ 1000 ∧ (∀ i, 0 < (g i).length) ∧ KeyP X σ H2 f n g ∧
  ∀ (H' : Hp) (p : Addr) (ns : List Nat), Same H2 H' → H2 p = none → H' p = some (.lst (ns.map fun (i : Nat) => V.int i)) → ns.Perm (List.range n) → ns.Pairwise (fun (i j : Nat) => keyLt (g (j : Int)) (g (i : Int)) = false) → Q (.ref p) H'
theorem pe_sortedK {e l : Expr} {te tl : TE} {p pos kpos : Pos} (hc : X.calm = true) (hg : Gl X "sorted") (hm : X.mg "sorted" = none) (he : PE X e te) (hl : PE X l tl) (hs : starEach [e] X.env = [(false, eval e X.env)] := by rfl) :
    PE X (.Call (.Name "sorted" p) [e] [⟨some "key", l, kpos⟩] pos) (tSK X te tl) := by
  intro pins s σ H Q I h
  refine wpAny_Call_Name_kw (ld_blt I hg hm boot_sorted ?_)
  refine callWith_kw (thn (pa_cons he pa_nil (by rw [hs]; rfl) pos pins s σ H (fun vs H1 => ∃ x, vs = [x] ∧ tl σ H1 fun y H2 => ∃ (rr f : Addr) (n : Nat) (g : Int → List Int), x = .ref rr ∧ y = .ref f ∧ H2 rr = some (.rng 0 n) ∧ n ≤ 1000 ∧ (∀ i, 0 < (g i).length) ∧ KeyP X σ H2 f n g ∧
      ∀ (H' : Hp) (p : Addr) (ns : List Nat), Same H2 H' → H2 p = none → H' p = some (.lst (ns.map fun (i : Nat) => V.int i)) → ns.Perm (List.range n) → ns.Pairwise (fun (i j : Nat) => keyLt (g (j : Int)) (g (i : Int)) = false) → Q (.ref p) H') I ?_) fun us s1 ⟨vs, H1, I1, r1, q1⟩ => ?_) (by rw [hs]; rfl) (by rw [hs]; rfl)
  · exact h
  · obtain ⟨x, rfl, q1⟩ := q1
    refine kws_cons (thn (hl pins s1 σ H1 _ I1 q1) fun u s2 ⟨y, H2, I2, r2, q2⟩ => kws_nil ?_)
    obtain ⟨rr, f, n, g, rfl, rfl, h1, h2, h3, h4, h5⟩ := q2
    cases r2
    obtain ⟨v, rfl, rv⟩ := vals1 r1
    cases rv
    exact call_sortedK hc I2 h1 h2 h3 h4 h5
/-- a call of what an expression gives -/
def tCallV (X : Cx) (tf : TE) (t : TA) : TE := fun σ H Q => tf σ H fun x H1 => ∃ (f : Addr) (k : Nat) (fd : FuncData) (ps : List Str) (sp : Sp), x = .ref f ∧ PySem.W.keepIn X.K (.ref f) = true ∧ FnOk X.prog X.w X.K X.mg X.base CX0 k f fd ps sp ∧ Room k X.A ∧
  Binds X.K fd ps [] ∧ t σ H1 fun vs H2 => sp vs H2 Q E0
theorem pe_callV {func e : Expr} {es : List Expr} {tf : TE} {t : TA} {pos : Pos} (hf : PE X func tf) (ha : PA X (e :: es) t)
    (hcall : eval (.Call func (e :: es) [] pos) X.env = (do callWith pos (← eval func X.env) [] (backTo pos (starEach (e :: es) X.env)) (backToKw pos (keywordEach [] X.env))) := by rfl)
    (he : starEach (e :: es) X.env = (false, eval e X.env) :: starEach es X.env := by rfl) (hpl : (backTo pos (starEach es X.env)).any (·.1) = false := by rfl) : PE X (.Call func (e :: es) [] pos) (tCallV X tf t) := by
  intro pins s σ H Q I h
  refine Call_ (thn (hf pins s σ H _ I h) fun u s1 ⟨x, H1, I1, r1, q1⟩ => ?_) hcall
  obtain ⟨f, k, fd, ps, sp, rfl, hk, F, hr, hb, q⟩ := q1
  cases r1
  exact PySem.W.callWith_K (h₀ := X.base) I1.ok.mod.kin hk (thn (ha pos pins s1 σ H1 _ I1 q) fun us s2 ⟨vs, H2, I2, r2, q2⟩ => ⟨I2.kIn, run_fn (dvs := []) (ds := []) F hr hb .nil pass0 I2 r2 (by rw [List.append_nil]; exact q2)⟩) he hpl
end
end L2

namespace L2
open PySem PySem.Spec PyProof.Rows
section
variable {X : Cx}
/-- how many different ones -/
def distinct (ns : List Int) : Nat := (firstMet (fun i => ns.getD i 0) ns.length).length
/-- set(xs) of a list of ints: the members are not told, their number is -/
def rSet (K : PySem.W.Frag) : List V → Hp → VK → Prop := fun vs H Q => ∃ (a : Addr) (ns : List Int), vs = [V.ref a] ∧ SqL K H a (ns.map V.int) ∧ ns.length ≤ 1000 ∧ ∀ (p : Addr) (S : Int → Bool), H p = none → Q (.ref p) (upd H p (.set S (distinct ns)))
theorem cr_set (hc : X.calm = true) : CallR X (.type "set") (rSet X.K) := by
  intro pins s σ H vs us Q I r h
  obtain ⟨a, ns, rfl, hs, hn, q⟩ := h
  obtain ⟨its, rv, hl, _⟩ := I.list hs
  rw [Vals.ref1 r]
  have hi : IntsAre its ns := rv.ints
  have hlen : its.length = ns.length := IntsAre.length hi
  have hsz : its.toArray.size = ns.length := by rw [List.size_toArray, hlen]
  refine call_set_list (ns := ns) (I.ok.hd hc) hl.isList (by rw [List.toList_toArray]; exact hi) (by rw [hsz]; show ns.length + 1 < 4096; omega) fun h' tk hset hk => ?_
  rw [hsz] at hset
  exact ⟨.ref s.heap.objs.size, _, I.laid (t' := tk) (o := .set _ (distinct ns)) (fun b u e => hk b u (Heap.lt_size e) e) (Nat.le_refl _) hset, rfl, q _ _ I.fresh⟩
/-- len of a set -/
theorem call_len_setT : CallR X (.builtin "len") (fun xs H Q => ∃ p S n, xs = [V.ref p] ∧ H p = some (.set S n) ∧ Q (.int (n : Nat)) H) := by
  intro pins s σ H vs us Q I r h
  obtain ⟨p, S, n, rfl, hp, q⟩ := h
  rw [Vals.ref1 r]
  obtain ⟨o, es, ep, t, ho, hex, hd, he, hS, hsc, hf, hn⟩ := I.hok p _ hp
  subst hn
  have : scanBound = 4096 := rfl
  exact call_len_set ho hex hd hf (by omega) ⟨.int _, H, I.tok _, ⟨_, rfl⟩, q⟩
end
theorem dd_le : ∀ (l acc : List Int), (l.foldl step_dedup acc).length ≤ acc.length + l.length
  | [], acc => Nat.le_refl _
  | x :: l, acc => by
    have h := dd_le l (step_dedup acc x)
    have h2 : (step_dedup acc x).length ≤ acc.length + 1 := by
      unfold step_dedup
      split
      · omega
      · rw [List.length_append]; exact Nat.le_refl _
    show (l.foldl step_dedup (step_dedup acc x)).length ≤ acc.length + (l.length + 1)
    omega
theorem dd_all : ∀ (l acc : List Int), (l.foldl step_dedup acc).length = acc.length + l.length ↔ l.Nodup ∧ ∀ x ∈ l, x ∉ acc
  | [], acc => ⟨fun _ => ⟨List.nodup_nil, fun _ h => by cases h⟩, fun _ => rfl⟩
  | x :: l, acc => by
    show (l.foldl step_dedup (step_dedup acc x)).length = acc.length + (l.length + 1) ↔ _
    by_cases hx : acc.any (· == x) = true
    · have e : step_dedup acc x = acc := by unfold step_dedup; rw [if_pos hx]
      rw [e]
      have h1 := dd_le l acc
      refine ⟨fun h => by omega, fun h => ?_⟩
      obtain ⟨y, hy, e2⟩ := List.any_eq_true.mp hx
      have : y = x := eq_of_beq e2
      subst this
      exact absurd hy (h.2 y (List.mem_cons_self ..))
    · have e : step_dedup acc x = acc ++ [x] := by unfold step_dedup; rw [if_neg hx]
      have nx : x ∉ acc := fun h => hx (List.any_eq_true.mpr ⟨x, h, beq_self_eq_true x⟩)
      rw [e]
      have h1 := dd_all l (acc ++ [x])
      rw [List.length_append] at h1
      have e3 : acc.length + (l.length + 1) = acc.length + [x].length + l.length := by show _ = acc.length + 1 + l.length; omega
      rw [e3, h1, List.nodup_cons]
      refine ⟨fun h => ⟨⟨fun hm => h.2 x hm (by simp), h.1⟩, fun y hy => ?_⟩, fun h => ⟨h.1.2, fun y hy hm => ?_⟩⟩
      · rcases List.mem_cons.mp hy with rfl | hy
        · exact nx
        · exact fun hm => h.2 y hy (List.mem_append_left _ hm)
      · rcases List.mem_append.mp hm with hm | hm
        · exact h.2 y (List.mem_cons_of_mem _ hy) hm
        · rw [List.mem_singleton.mp hm] at hy
          exact h.1.1 hy
theorem distinct_all (ns : List Int) : distinct ns = ns.length ↔ ns.Nodup := by
  unfold distinct firstMet
  have e : (List.range ns.length).map (fun i => ns.getD i 0) = ns := by
    refine List.ext_getElem? fun j => ?_
    rw [List.getElem?_map]
    by_cases h : j < ns.length
    · rw [List.getElem?_range h, List.getElem?_eq_getElem h]
      show some (ns.getD j 0) = _
      rw [List.getD_eq_getElem?_getD, List.getElem?_eq_getElem h]
      rfl
    · rw [List.getElem?_eq_none (by rw [List.length_range]; omega), List.getElem?_eq_none (by omega)]
      rfl
  rw [e]
  have := dd_all ns []
  rw [List.length_nil, Nat.zero_add] at this
  exact this.trans ⟨fun h => h.1, fun h => ⟨h, fun _ _ z => by cases z⟩⟩
end L2

namespace Mush
open PySem PySem.Spec PyProof.Rows L2 Kh366

/-! ### the text by places -/
def top (i : Nat) : Stmt := PySem.Challenge.pw_mushpunnets_s01_answers.main.body.getD i (.Pass ⟨0, 0, 0, 0⟩)
abbrev s_Shed_init : Stmt := inClass (top 18) 0
abbrev s_Shed_set_up : Stmt := inClass (top 18) 1
abbrev s_Shed_change : Stmt := inClass (top 18) 2
abbrev s_Shed_take_back : Stmt := inClass (top 18) 3
abbrev s_is_width : Stmt := top 19
abbrev s_is_each : Stmt := top 20
abbrev s_is_differ : Stmt := top 21
abbrev s_is_mushroom : Stmt := top 22
abbrev s_in_row : Stmt := top 23
abbrev s_spread_of : Stmt := top 24
abbrev s_packed : Stmt := top 25
abbrev s_packed_in : Stmt := top 26
abbrev s_how_many : Stmt := top 27
abbrev s_how_many_with : Stmt := top 28
abbrev s_how_many_without : Stmt := top 29
abbrev s_punnet_with : Stmt := top 30
abbrev s_call_begin : Stmt := top 31
abbrev s_call_cap : Stmt := top 32
abbrev s_call_out : Stmt := top 33
abbrev s_call_width : Stmt := top 34
abbrev s_call_each : Stmt := top 35
abbrev s_call_differ : Stmt := top 36
abbrev s_call_back : Stmt := top 37
abbrev s_call_count : Stmt := top 38
abbrev s_call_punnet : Stmt := top 39
abbrev s_call_which : Stmt := top 40
abbrev s_call_left : Stmt := top 41
abbrev s_call_is_one : Stmt := top 42
abbrev s_call_spread : Stmt := top 43
abbrev s_call_if_differ : Stmt := top 44
abbrev s_call_if_each : Stmt := top 45
abbrev s_call_least : Stmt := top 46
abbrev s_call_more : Stmt := top 47
abbrev s_call_best_more : Stmt := top 48
abbrev s_call_needed : Stmt := top 49
abbrev s_call_order : Stmt := top 50
abbrev s_call_state : Stmt := top 51
abbrev s_end_of_call : Stmt := top 53
abbrev s_answer : Stmt := top 54
abbrev s_answers : Stmt := top 55

/-! ### numbers in lists -/
def nv (l : List Nat) : List V := l.map fun (n : Nat) => V.int n
theorem nv_nil : nv [] = [] := rfl
theorem nv_length (l : List Nat) : (nv l).length = l.length := List.length_map ..
theorem nv_append (a b : List Nat) : nv (a ++ b) = nv a ++ nv b := List.map_append
theorem nv_get (l : List Nat) (i : Nat) : (nv l)[i]? = l[i]?.map fun (n : Nat) => V.int n := List.getElem?_map ..
theorem nv_at {l : List Nat} {i n : Nat} (h : l[i]? = some n) : (nv l)[i]? = some (.int n) := by rw [nv_get, h]; rfl
theorem nv_flat (l : List Nat) : (nv l).all flatV = true := by
  rw [List.all_eq_true]
  intro x hx
  obtain ⟨n, _, rfl⟩ := List.mem_map.mp hx
  rfl
theorem nv_take (l : List Nat) (k : Nat) : (nv l).take k = nv (l.take k) := List.map_take.symm
theorem nv_drop (l : List Nat) (k : Nat) : (nv l).drop k = nv (l.drop k) := List.map_drop.symm
theorem nv_small {l : List Nat} (h : l.length ≤ 1000) : (nv l).length ≤ sizeLine := by rw [nv_length, sizeLine_eq]; omega
theorem atI_at {l : List Nat} {i n : Nat} {z : Int} (e : z = (i : Int)) (h : l[i]? = some n) : atI (nv l) z = some (.int n) := at_of e (nv_at h)
/-- xs[a:b], both within -/
theorem cut_ab {xs : List V} {a b : Nat} (hb : b ≤ xs.length) (hab : a ≤ b) : cutV xs (some (a : Int)) (some (b : Int)) = (xs.drop a).take (b - a) := by
  unfold cutV
  rw [HT.sIx_nat, HT.sIx_nat, Nat.min_eq_left (by omega), Nat.min_eq_left (by omega)]
theorem cut_a (xs : List V) (a : Nat) : cutV xs (some (a : Int)) none = xs.drop a := by
  unfold cutV
  rw [HT.sIx_nat, HT.sIx_none]
  by_cases h : a ≤ xs.length
  · rw [Nat.min_eq_left h, List.take_of_length_le (by rw [List.length_drop]; omega)]
  · rw [Nat.min_eq_right (by omega), List.drop_eq_nil_of_le (Nat.le_refl _), List.drop_eq_nil_of_le (by omega)]
    simp
theorem cut_b {xs : List V} {b : Nat} (hb : b ≤ xs.length) : cutV xs none (some (b : Int)) = xs.take b := by
  unfold cutV
  rw [HT.sIx_none, HT.sIx_nat, Nat.min_eq_left hb, List.drop_zero]
  rfl
theorem cut_last (xs : List V) : cutV xs none (some (-1)) = xs.dropLast := by
  unfold cutV
  have e : HT.sIx xs.length xs.length (some (-1)) = xs.length - 1 := by
    show (if (-1 : Int) < 0 then (-1 + (xs.length : Int)).toNat else min (-1 : Int).toNat xs.length) = _
    rw [if_pos (by omega)]
    omega
  rw [HT.sIx_none, List.drop_zero, List.dropLast_eq_take, e, Nat.sub_zero]
theorem cut_tail (xs : List V) (k : Nat) : cutV xs (some (-((k : Int) + 1))) none = xs.drop (xs.length - (k + 1)) := by
  unfold cutV
  have e : HT.sIx xs.length 0 (some (-((k : Int) + 1))) = xs.length - (k + 1) := by
    show (if -((k : Int) + 1) < 0 then (-((k : Int) + 1) + (xs.length : Int)).toNat else _) = _
    rw [if_pos (by omega)]
    omega
  rw [e, HT.sIx_none, List.take_of_length_le (by rw [List.length_drop]; omega)]

/-! ### the lambda's table, and what stays -/
structure Tb where
  P : Addr
  pos : Pos
  q : Str
def Tb.Ok (T : Tb) (H : Hp) : Prop := TabOk H T.P T.pos T.q
theorem Tb.Ok.is {T : Tb} {H : Hp} (h : T.Ok H) : ∃ ps, H T.P = some (.tbl ps) := by
  rcases h with e | ⟨_, e, _⟩
  · exact ⟨_, e⟩
  · exact ⟨_, e⟩
theorem Tb.Ok.ne {T : Tb} {H : Hp} (h : T.Ok H) {b : Addr} {o : HO} (e : H b = some o) (ho : ∀ ps, o ≠ .tbl ps) : b ≠ T.P := fun z => by
  obtain ⟨ps, q⟩ := h.is
  rw [z, q] at e
  exact ho ps (Option.some.inj e).symm
theorem Tb.Ok.ne0 {T : Tb} {H : Hp} (h : T.Ok H) {p : Addr} (e : H p = none) : T.P ≠ p := fun z => by
  obtain ⟨ps, q⟩ := h.is
  rw [z, e] at q
  cases q
/-- all that was tracked, but the table and what is at x, stays -/
structure Go (T : Tb) (x : Option Addr) (H H' : Hp) : Prop where
  ok : T.Ok H
  ok' : T.Ok H'
  keep : ∀ b o, b ≠ T.P → x ≠ some b → H b = some o → H' b = some o
theorem Go.refl {T : Tb} {x : Option Addr} {H : Hp} (h : T.Ok H) : Go T x H H := ⟨h, h, fun _ _ _ _ e => e⟩
theorem Go.trans {T : Tb} {x : Option Addr} {H H1 H2 : Hp} (a : Go T x H H1) (b : Go T x H1 H2) : Go T x H H2 := ⟨a.ok, b.ok', fun c o h1 h2 e => b.keep c o h1 h2 (a.keep c o h1 h2 e)⟩
theorem Go.weak {T : Tb} {x : Option Addr} {H H1 : Hp} (a : Go T none H H1) : Go T x H H1 := ⟨a.ok, a.ok', fun c o h1 _ e => a.keep c o h1 nofun e⟩
theorem Tb.Ok.upd {T : Tb} {H : Hp} (h : T.Ok H) {p : Addr} {o : HO} (hp : H p = none ∨ ∃ u, H p = some u ∧ (∀ ps, u ≠ .tbl ps) ∧ ∀ φ, u ≠ .ext φ) : T.Ok (upd H p o) := by
  have np : ∀ b u, H b = some u → ((∃ ps, u = .tbl ps) ∨ ∃ φ, u = .ext φ) → b ≠ p := fun b u e hu z => by
    rcases hp with q | ⟨v, q, h1, h2⟩
    · rw [z, q] at e; cases e
    · rw [z, q] at e
      cases e
      rcases hu with ⟨ps, z⟩ | ⟨φ, z⟩
      · exact h1 ps z
      · exact h2 φ z
  rcases h with e | ⟨c', e, e2⟩
  · exact .inl (by rw [upd_ne (np _ _ e (.inl ⟨_, rfl⟩))]; exact e)
  · exact .inr ⟨c', by rw [upd_ne (np _ _ e (.inl ⟨_, rfl⟩))]; exact e, by rw [upd_ne (np _ _ e2 (.inr ⟨_, rfl⟩))]; exact e2⟩
/-- a new thing -/
theorem Go.new {T : Tb} {x : Option Addr} {H H1 : Hp} (a : Go T x H H1) {p : Addr} {o : HO} (hp : H1 p = none) : Go T x H (upd H1 p o) :=
  ⟨a.ok, a.ok'.upd (.inl hp), fun b u h1 h2 e => by have := a.keep b u h1 h2 e; rw [upd_ne (ne_of_none this hp)]; exact this⟩
/-- a thing that was not there at the start, or is x, is changed -/
theorem Go.set {T : Tb} {x : Option Addr} {H H1 : Hp} (a : Go T x H H1) {p : Addr} {o u : HO} (e : H1 p = some u) (h1 : ∀ ps, u ≠ .tbl ps) (h2 : ∀ φ, u ≠ .ext φ) (hp : H p = none ∨ x = some p) : Go T x H (upd H1 p o) :=
  ⟨a.ok, a.ok'.upd (.inr ⟨u, e, h1, h2⟩), fun b v g1 g2 eb => by
    have hb : b ≠ p := fun z => by
      rcases hp with q | q
      · rw [z, q] at eb; cases eb
      · exact g2 (by rw [q, z])
    rw [upd_ne hb]
    exact a.keep b v g1 g2 eb⟩
theorem Go.lst {T : Tb} {H H1 : Hp} (a : Go T none H H1) {b : Addr} {xs : List V} (e : H b = some (.lst xs)) : H1 b = some (.lst xs) := a.keep b _ (a.ok.ne e fun _ => nofun) nofun e
theorem Go.of {T : Tb} {H H1 : Hp} (a : Go T none H H1) {b : Addr} {o : HO} (e : H b = some o) (ho : ∀ ps, o ≠ .tbl ps) : H1 b = some o := a.keep b _ (a.ok.ne e ho) nofun e
theorem Go.ofx {T : Tb} {x : Addr} {H H1 : Hp} (a : Go T (some x) H H1) {b : Addr} {o : HO} (e : H b = some o) (ho : ∀ ps, o ≠ .tbl ps) (hb : b ≠ x) : H1 b = some o := a.keep b _ (a.ok.ne e ho) (fun z => hb (Option.some.inj z).symm) e
theorem Go.free {T : Tb} {x : Option Addr} {H H1 : Hp} (a : Go T x H H1) {p : Addr} (hx : x ≠ some p) (e : H1 p = none) : H p = none := by
  cases q : H p with
  | none => rfl
  | some o =>
    by_cases z : p = T.P
    · obtain ⟨ps, q2⟩ := a.ok'.is
      rw [z, q2] at e
      cases e
    · rw [a.keep p o z hx q] at e
      cases e

/-! ### the shed -/
def shF (b : Bool) (e d : Int) (w u : Addr) : List (Str × V) := [("begun", .bl b), ("each", .int e), ("differ", .int d), ("widths", .ref w), ("earlier", .ref u)]
theorem lk_hit {k : Str} {v : V} {r : List (Str × V)} : ((k, v) :: r).lookup k = some v := by rw [List.lookup_cons, beq_self_eq_true]
theorem lk_miss {k k' : Str} {v : V} {r : List (Str × V)} (h : ¬ k' = k) : ((k, v) :: r).lookup k' = r.lookup k' := by
  rw [List.lookup_cons, beq_eq_false_iff_ne.mpr h]
theorem pf_hit {k : Str} {v x : V} {r : List (Str × V)} : putF k v ((k, x) :: r) = (k, v) :: r := by
  show (if k = k then _ else _) = _
  rw [if_pos rfl]
theorem pf_miss {k g : Str} {v x : V} {r : List (Str × V)} (h : ¬ g = k) : putF k v ((g, x) :: r) = (g, x) :: putF k v r := by
  show (if g = k then _ else _) = _
  rw [if_neg h]
section
variable {b : Bool} {e d : Int} {w u : Addr}
theorem sh_begun : (shF b e d w u).lookup ("begun" : Str) = some (.bl b) := lk_hit
theorem sh_each : (shF b e d w u).lookup ("each" : Str) = some (.int e) := by
  unfold shF; rw [lk_miss (by decide +kernel), lk_hit]
theorem sh_differ : (shF b e d w u).lookup ("differ" : Str) = some (.int d) := by
  unfold shF; rw [lk_miss (by decide +kernel), lk_miss (by decide +kernel), lk_hit]
theorem sh_widths : (shF b e d w u).lookup ("widths" : Str) = some (.ref w) := by
  unfold shF; rw [lk_miss (by decide +kernel), lk_miss (by decide +kernel), lk_miss (by decide +kernel), lk_hit]
theorem sh_earlier : (shF b e d w u).lookup ("earlier" : Str) = some (.ref u) := by
  unfold shF; rw [lk_miss (by decide +kernel), lk_miss (by decide +kernel), lk_miss (by decide +kernel), lk_miss (by decide +kernel), lk_hit]
theorem sh_no {m : Str} (h : m ∉ (["begun", "each", "differ", "widths", "earlier"] : List Str)) : (shF b e d w u).lookup m = none := by
  simp only [List.mem_cons, not_or] at h
  unfold shF
  rw [lk_miss h.1, lk_miss h.2.1, lk_miss h.2.2.1, lk_miss h.2.2.2.1, lk_miss h.2.2.2.2.1]
  rfl
theorem put_begun (y : Bool) : putF "begun" (.bl y) (shF b e d w u) = shF y e d w u := pf_hit
theorem put_each (y : Int) : putF "each" (.int y) (shF b e d w u) = shF b y d w u := by
  unfold shF; rw [pf_miss (by decide +kernel), pf_hit]
theorem put_differ (y : Int) : putF "differ" (.int y) (shF b e d w u) = shF b e y w u := by
  unfold shF; rw [pf_miss (by decide +kernel), pf_miss (by decide +kernel), pf_hit]
theorem put_widths (y : Addr) : putF "widths" (.ref y) (shF b e d w u) = shF b e d y u := by
  unfold shF; rw [pf_miss (by decide +kernel), pf_miss (by decide +kernel), pf_miss (by decide +kernel), pf_hit]
theorem put_earlier (y : Addr) : putF "earlier" (.ref y) (shF b e d w u) = shF b e d w y := by
  unfold shF; rw [pf_miss (by decide +kernel), pf_miss (by decide +kernel), pf_miss (by decide +kernel), pf_miss (by decide +kernel), pf_hit]
end
/-- what was kept of a change: a tuple -/
def KeptAt (H : Hp) (t : Addr) (x : Nat × Nat × List Nat) : Prop := ∃ w, H t = some (.tup [.int x.1, .int x.2.1, .ref w]) ∧ H w = some (.lst (nv x.2.2))
def EarlierAt (H : Hp) (ts : List Addr) (us : List (Nat × Nat × List Nat)) : Prop := Paired (KeptAt H) ts us
structure Good (a : Abs) : Prop where
  e1 : 1 ≤ a.each
  e6 : a.each ≤ 6
  d50 : a.differ ≤ 50
  c24 : a.caps.length ≤ 24
  cw : ∀ w ∈ a.caps, 1 ≤ w ∧ w ≤ 100
  u10 : a.undo.length ≤ 10
  u : ∀ x ∈ a.undo, (1 ≤ x.1 ∧ x.1 ≤ 6) ∧ x.2.1 ≤ 50 ∧ x.2.2.length ≤ 24 ∧ ∀ w ∈ x.2.2, 1 ≤ w ∧ w ≤ 100
/-- the shed at x stands for a -/
def ShedAt (C : Addr) (H : Hp) (x : Addr) (b : Bool) (a : Abs) : Prop :=
  ∃ dx w u ts, H x = some (.ins C dx (shF b a.each a.differ w u)) ∧ H w = some (.lst (nv a.caps)) ∧ H u = some (.lst (ts.map V.ref)) ∧ EarlierAt H ts a.undo.reverse
def ShedIs (C : Addr) (H : Hp) (x : Addr) (s : Option Abs) : Prop := match s with
  | none => ShedAt C H x false ⟨0, 0, [], []⟩
  | some a => ShedAt C H x true a ∧ Good a
theorem EarlierAt.keep {H H' : Hp} {ts : List Addr} {us : List (Nat × Nat × List Nat)} (e : EarlierAt H ts us) (k : ∀ b xs, (H b = some (.tup xs) → H' b = some (.tup xs)) ∧ (H b = some (.lst xs) → H' b = some (.lst xs))) : EarlierAt H' ts us :=
  Paired.mapP e fun _ _ ⟨w, h1, h2⟩ => ⟨w, (k _ _).1 h1, (k _ _).2 h2⟩
/-- a walk that leaves the shed alone -/
theorem ShedAt.go {T : Tb} {C : Addr} {H H' : Hp} {x : Addr} {b : Bool} {a : Abs} (h : ShedAt C H x b a) (g : Go T none H H') : ShedAt C H' x b a := by
  obtain ⟨dx, w, u, ts, h1, h2, h3, h4⟩ := h
  exact ⟨dx, w, u, ts, g.of h1 fun _ => nofun, g.lst h2, g.lst h3, h4.keep fun b xs => ⟨fun e => g.of e fun _ => nofun, fun e => g.lst e⟩⟩
theorem ShedIs.go {T : Tb} {C : Addr} {H H' : Hp} {x : Addr} {s : Option Abs} (h : ShedIs C H x s) (g : Go T none H H') : ShedIs C H' x s := by
  cases s with
  | none => exact ShedAt.go h g
  | some a => exact ⟨ShedAt.go h.1 g, h.2⟩
/-- the punnets' lists -/
def PunAt (H : Hp) (ps : List Addr) (pp : List (List Nat)) : Prop := Paired (fun t l => H t = some (.lst (nv l))) ps pp
theorem PunAt.go {T : Tb} {H H' : Hp} {ps : List Addr} {pp : List (List Nat)} (h : PunAt H ps pp) (g : Go T none H H') : PunAt H' ps pp := Paired.mapP h fun _ _ e => g.lst e
end Mush

namespace Mush
open PySem PySem.Spec PyProof.Rows L2 Kh366

/-! ### what of the text is used -/
structure Txt (K : PySem.W.Frag) (mg : Str → Option Value) (C : Addr) : Prop where
  cl : Cls K C
  nB : NoAttr K C "begun"
  nE : NoAttr K C "each"
  nD : NoAttr K C "differ"
  nW : NoAttr K C "widths"
  nU : NoAttr K C "earlier"
  mgC : mg "Shed" = some (.ref C)
  len : mg "len" = none
  range : mg "range" = none
  sorted : mg "sorted" = none
  enumerate : mg "enumerate" = none
  mMush : ∃ t, mg "MOST_MUSHROOMS" = some (.int 24 t)
  mWide : ∃ t, mg "MOST_WIDE" = some (.int 100 t)
  mEach : ∃ t, mg "MOST_EACH" = some (.int 6 t)
  mDiff : ∃ t, mg "MOST_DIFFER" = some (.int 50 t)
  mBack : ∃ t, mg "MOST_TAKEN_BACK" = some (.int 10 t)
  cNoM : ∃ t, mg "NO_MUSHROOM" = some (.int (-2) t)
  cNoB : ∃ t, mg "NOTHING_TO_TAKE_BACK" = some (.int (-2) t)
  cThat : ∃ t, mg "THAT_ALREADY" = some (.int (-17) t)
  cNot : ∃ t, mg "NOT_AS_TOLD" = some (.int (-22) t)
  cRoom : ∃ t, mg "NO_ROOM" = some (.int (-28) t)
  cPun : ∃ t, mg "NO_PUNNET" = some (.int (-33) t)
  cBeg : ∃ t, mg "NOT_BEGUN" = some (.int (-61) t)
  max_ : mg "max" = none
  min_ : mg "min" = none
  set_ : mg "set" = none
  mAsk : ∃ t, mg "MOST_DIFFER_ASKED" = some (.int 100 t)
  cDif : ∃ t, mg "NO_DIFFERENCE" = some (.int (-33) t)
/-- a global that is an int -/
theorem pe_gi {X : Cx} {x : Str} {pos : Pos} {i : Int} (hg : Gl X x) (hm : ∃ t, X.mg x = some (.int i t)) (hd : (x == ("__debug__" : Str)) = false := by decide) : PE X (.Name x pos) (tC (.int i)) := by
  obtain ⟨t, e⟩ := hm
  exact pe_glob hg e ⟨t, rfl⟩ hd

/-! ### a def of the module, with what a call of it asks -/
structure Dn (K : PySem.W.Frag) (mg : Str → Option Value) (x : Str) (st : Stmt) (ps : List Str) (f : Addr) (fd : FuncData) : Prop where
  fn : Fun K x x st f fd
  mg_ : mg x = some (.ref f)
  bd : Binds K fd ps []
  bt : ∀ (s : Shared) (us : List Value), us.length = ps.length → BindsTo s fd ⟨us, []⟩ (ps.zip us)

section
variable {P : Program} {w : World} {K : PySem.W.Frag} {mg : Str → Option Value} {base : Heap}

/-! ### is_width, is_each, is_differ -/
def spBt (lo hi : Int) : Sp := fun vs H Q _ => ∃ i : Int, vs = [.int i] ∧ Q (.bl (decide (lo ≤ i) && decide (i ≤ hi))) H
theorem scIw : FnScope ["width"] ["width"] (defScope s_is_width) := ⟨rfl, rfl, rfl, by decide +kernel, rfl, by decide +kernel, by decide +kernel⟩
theorem bt_end {i lo hi : Int} {Q : V → Prop} (h : Q (.bl (decide (lo ≤ i) && decide (i ≤ hi)))) : if decide (lo ≤ i) = true then Q (.bl (decide (i ≤ hi))) else Q (.bl false) := by
  cases e : decide (lo ≤ i) with
  | true => rw [e, Bool.true_and] at h; exact iteT h
  | false => rw [e, Bool.false_and] at h; exact iteF h
theorem ok_is_width {f C : Addr} {fd : FuncData} (F : Fun K "is_width" "is_width" s_is_width f fd) (T : Txt K mg C) : FnOk P w K mg base CX0 1 f fd ["width"] (spBt 1 100) := by
  refine F.ok scIw (fun vs H Q E h => ?_) (fun cdv A outer s H vs Q E hr h => ?_)
  · obtain ⟨i, rfl, _⟩ := h
    rfl
  · obtain ⟨i, rfl, h⟩ := h
    refine ⟨_, pss_one (ps_ret (pe_chain op_le op_le pe_int (pv 0) (pe_gi rfl T.mWide))), ?_⟩
    exact ⟨_, rfl, _, _, rfl, rfl, _, rfl, by
      have := bt_end (Q := fun v => Q v H) h
      cases e : decide ((1 : Int) ≤ i) with
      | true => rw [e] at this; exact iteT ⟨_, _, rfl, rfl, (by simpa using this)⟩
      | false => rw [e] at this; exact iteF (by simpa using this)⟩

/-! ### in_row -/
def inRowPos : Pos := match defBody s_in_row with
  | [.Return (some (.Call _ _ [⟨_, .Lambda _ _ _ p, _⟩] _)) _] => p
  | _ => ⟨0, 0, 0, 0⟩
def spInRow (T : Tb) : Sp := fun vs H Q _ => ∃ (a : Addr) (l : List Nat), vs = [.ref a] ∧ H a = some (.lst (nv l)) ∧ l.length ≤ 30 ∧ T.Ok H ∧
  ∀ (H' : Hp) (p : Addr), Go T none H H' → H p = none → H' p = some (.lst (nv (inTurn l))) → Q (.ref p) H'
theorem scIr : FnScope ["widths"] ["widths"] (defScope s_in_row) := ⟨rfl, rfl, rfl, by decide +kernel, rfl, by decide +kernel, by decide +kernel⟩
/-- the key of mushroom i -/
def keyOf (l : List Nat) (i : Int) : List Int := [((l.getD i.toNat 0 : Nat) : Int), i]
theorem key_lt {a b c d : Int} (h : keyLt [a, b] [c, d] = false) : c < a ∨ (c = a ∧ d ≤ b) := by
  unfold keyLt at h
  have h' : PyProof.Rows.lexLt itemOrd [Sum.inl a, Sum.inl b] [Sum.inl c, Sum.inl d] = false := h
  rw [lex_false] at h'
  obtain ⟨h1, h2⟩ := h'
  have h1' : ¬ a < c := of_decide_eq_false h1
  rcases h2 with h2 | h2
  · have h2' : c < a := of_decide_eq_true h2
    exact .inl h2'
  · rw [lex_false] at h2
    have h2' : ¬ b < d := of_decide_eq_false h2.1
    by_cases e : c < a
    · exact .inl e
    · exact .inr ⟨by omega, by omega⟩
def lamScope : Scope := match defBody s_in_row with
  | [.Return (some (.Call _ _ [⟨_, .Lambda _ _ sc _, _⟩] _)) _] => sc
  | _ => { kind := .function, names := [], isGenerator := false, isCoroutine := false }
def inRowQ : Str := ("in_row" : Str) ++ ".<locals>." ++ "<lambda>"
theorem lamFree : ∀ y ∈ lamScope.names, y.2 = .free → (defScope s_in_row).names.lookup y.1 = some .cell ∨ (defScope s_in_row).names.lookup y.1 = some .free := by decide +kernel
theorem TabOk.same {H H' : Hp} {Pt : Addr} {pos : Pos} {q : Str} (h : TabOk H Pt pos q) (sm : Same H H') : TabOk H' Pt pos q := by
  rcases h with e | ⟨c', e, e2⟩
  · exact .inl (sm _ _ e)
  · exact .inr ⟨c', sm _ _ e, sm _ _ e2⟩
theorem ok_in_row {f c Pt C : Addr} {oc kV doc pm ct : Value} {od an : Option Addr} {osl : Array (Option Value)}
    (lk : K.lookup f = some ⟨oc, od, .func (PySem.W.fnOf "in_row" "in_row" (defArgs s_in_row) (defBody s_in_row) (defScope s_in_row) .none kV doc pm an (.ref c) ct), osl⟩) (hcd : PySem.W.codeIn K (.ref c) "in_row" = true)
    (T : Txt K mg C) (B : LamBase base mg c Pt) :
    FnOk P w K mg base CX0 3 f (PySem.W.fnOf "in_row" "in_row" (defArgs s_in_row) (defBody s_in_row) (defScope s_in_row) .none kV doc pm an (.ref c) ct) ["widths"] (spInRow ⟨Pt, inRowPos, inRowQ⟩) := by
  refine fn_of lk hcd scIr (fun vs H Q E h => ?_) (fun A outer s H vs Q E hr h => ?_)
  · obtain ⟨a, l, rfl, _⟩ := h
    rfl
  · obtain ⟨a, l, rfl, ha, hl, hT, k⟩ := h
    have L : LamOk (cxOf CX0 P w K mg base ["widths"] "in_row" (defScope s_in_row) f (.ref c) A outer s H E).nox ["i", "widths"] ["i"] [0] lamScope :=
      ⟨rfl, rfl, rfl, by decide +kernel, rfl, by decide +kernel, by decide +kernel, by decide +kernel, lamFree, (fun i x h => by
        match i, h with
        | 0, h =>
          have e : ("widths" : Str) = x := Option.some.inj h
          subst e
          exact ⟨0, rfl, rfl, by decide +kernel⟩
        | i + 1, h =>
          rw [List.getElem?_eq_none (by simp only [List.length_cons, List.length_nil]; omega)] at h
          cases h), rfl⟩
    refine ⟨_, PSs.nox (pss_one (ps_ret (pe_sortedK rfl rfl T.sorted (pe_callTy cr_range rfl T.range boot_range (pa_cons (pe_callB call_len_seq rfl T.len PySem.boot_len (pa_cons (pv 0) pa_nil)) pa_nil)) (pe_lam (P := Pt) B rfl rfl lamFree)))), ?_⟩
    refine ⟨_, rfl, a, _, rfl, .inl (SqL.of ha), _, rfl, fun rr hrr => ⟨_, rfl, ?_, fun H2 f' c' pm' ctv nf kt tk ef ec => ?_⟩⟩
    · exact Tb.Ok.upd (T := ⟨Pt, inRowPos, inRowQ⟩) hT (.inl hrr)
    · have nP : ∀ {b : Addr} {o : HO}, H b = some o → (∀ ps, o ≠ .tbl ps) → b ≠ Pt := fun e ho => Tb.Ok.ne (T := ⟨Pt, inRowPos, inRowQ⟩) hT e ho
      have rP : rr ≠ Pt := fun z => Tb.Ok.ne0 (T := ⟨Pt, inRowPos, inRowQ⟩) hT hrr z.symm
      have k2 : ∀ b o, b ≠ Pt → H b = some o → H2 b = some o := fun b o hb e => kt b o hb (by rw [upd_ne (ne_of_none e hrr)]; exact e)
      have e2 : H2 rr = some (.rng 0 (l.length : Nat)) := by
        have := kt rr _ rP upd_same
        rw [this, nv_length]
      refine ⟨rr, f', l.length, keyOf l, rfl, rfl, e2, by omega, fun i => Nat.zero_lt_succ _, ?_, fun H' p ns sm np hp perm pw => ?_⟩
      · intro pins s' H' i u I sm hi ru
        have hw : H' a = some (.lst (nv l)) := sm a _ (k2 a _ (nP ha fun _ => nofun) ha)
        obtain ⟨n, hn⟩ : ∃ n, l[i]? = some n := ⟨_, List.getElem?_eq_getElem hi⟩
        refine lam_run (ps := ["i"]) (caps := [0]) (vs := [.int (i : Int)]) I L I.ok.frames (I.ok.hd rfl) ((hr.in1).in1).depth (sm _ _ ef) (sm _ _ ec) rfl rfl (.cons ru .nil)
          (pe_tup (pa_cons (pe_ix ix_list (pv 1) (pv 0) (fun _ _ => rfl)) (pa_cons (pv 0) pa_nil))) ?_
        refine ⟨_, rfl, _, rfl, a, _, _, _, rfl, rfl, SqL.of hw, atI_at rfl hn, _, rfl, (by show 2 ≤ sizeLine; decide), fun p np => ⟨p, rfl, np, ?_⟩⟩
        have eg : l.getD i 0 = n := by rw [List.getD_eq_getElem?_getD, hn]; rfl
        show upd H' p (.tup [.int n, .int i]) = upd H' p (.tup [.int ((l.getD (i : Int).toNat 0 : Nat) : Int), .int i])
        rw [Int.toNat_natCast, eg]
      · refine k H' p ⟨hT, TabOk.same tk sm, fun b o hb _ e => sm b o (k2 b o hb e)⟩ ?_ ?_
        · have := np
          cases q : H p with
          | none => rfl
          | some o =>
            by_cases z : p = Pt
            · rcases tk with e | ⟨_, e, _⟩
              · rw [z, e] at this; cases this
              · rw [z, e] at this; cases this
            · rw [k2 p o z q] at this
              cases this
        · rw [inTurn_unique l perm (pw.imp fun {i j} hij => ?_)] at hp
          · exact hp
          · have := key_lt hij
            unfold lexLe
            rw [Int.toNat_natCast, Int.toNat_natCast] at this
            omega

/-! ### spread_of -/
theorem nv_ints (l : List Nat) : nv l = (l.map Int.ofNat).map V.int := by
  unfold nv
  rw [List.map_map]
  rfl
def spSpread (T : Tb) : Sp := fun vs H Q _ => ∃ (a m : Addr) (l p : List Nat), vs = [.ref a, .ref m] ∧ H a = some (.lst (nv l)) ∧ H m = some (.lst (nv p)) ∧ (∀ i ∈ p, i < l.length) ∧ 0 < p.length ∧ p.length ≤ 100 ∧ T.Ok H ∧
  ∀ H' : Hp, Go T none H H' → Q (.int ((spr l p : Nat) : Int)) H'
theorem scSo : FnScope ["widths", "mushrooms", "chosen", "i"] ["widths", "mushrooms"] (defScope s_spread_of) := ⟨rfl, rfl, rfl, by decide +kernel, rfl, by decide +kernel, by decide +kernel⟩
def sprScope : Scope := match defBody s_spread_of with
  | [.Assign _ (.ListComp _ _ sc _) _, _] => sc
  | _ => { kind := .function, names := [], isGenerator := false, isCoroutine := false }
theorem sprBlk : blkC ["widths", "mushrooms", "chosen", "i"] (defScope s_spread_of) sprScope [("i", 3)] = true := by decide +kernel
theorem ok_spread_of {f C : Addr} {fd : FuncData} {Tt : Tb} (F : Fun K "spread_of" "spread_of" s_spread_of f fd) (T : Txt K mg C) : FnOk P w K mg base CX0 1 f fd ["widths", "mushrooms"] (spSpread Tt) := by
  refine F.ok scSo (fun vs H Q E h => ?_) (fun cdv A outer s H vs Q E hr h => ?_)
  · obtain ⟨a, m, l, p, rfl, _⟩ := h
    rfl
  · obtain ⟨a, m, l, p, rfl, ha, hm, hin, hne, hle, hT, fin⟩ := h
    refine ⟨_, pss_cons (ps_setLc (i := 2) (own := [("i", 3)]) rfl scSo.nd rfl rfl (sw_true rfl rfl rfl rfl) (pi_list (pv 1)) (blkOk_by sprBlk)
        (fun _ _ _ _ _ => pg_name (i := 3) scSo.nd rfl (Or.inl rfl)) (fun _ _ _ _ _ => pts_nil) (fun _ _ _ _ _ => pe_ix (r := rIxL K) ix_list (pv 0) (pv 3) (fun _ _ => rfl)))
      (pss_one (ps_ret (pe_op op_sub (pe_callB (cr_max rfl) rfl T.max_ boot_max (pa_cons (pv 2) pa_nil)) (pe_callB (cr_min rfl) rfl T.min_ boot_min (pa_cons (pv 2) pa_nil))))), ?_⟩
    refine ⟨_, rfl, m, rfl, ⟨_, SqL.of hm⟩, fun D hD => lc_list (xs := nv p) (fun i H' => i ≤ p.length ∧ Go Tt none H H' ∧ H' D = some (.lst (nv ((p.take i).map fun j => l.getD j 0))))
      ⟨Nat.zero_le _, (Go.refl hT).new hD, upd_same⟩ (fun i H' _ ⟨_, g, _⟩ => SqL.of (g.lst hm)) ?_ ?_⟩
    · rintro i x H' hx ⟨hi, g, hD'⟩
      rw [nv_get] at hx
      cases en : p[i]? with
      | none => rw [en] at hx; cases hx
      | some n =>
        rw [en] at hx
        cases hx
        obtain ⟨z1, z2⟩ := List.getElem?_eq_some_iff.mp en
        have hn : n < l.length := hin n (List.mem_of_getElem? en)
        have hln : l[n]? = some (l.getD n 0) := by rw [List.getD_eq_getElem?_getD, List.getElem?_eq_getElem hn]; rfl
        refine ⟨rfl, _, rfl, _, rfl, a, _, _, _, rfl, rfl, SqL.of (g.lst ha), atI_at rfl hln, _, hD', (by rw [nv_length, List.length_map, List.length_take, sizeLine_eq]; omega), z1, g.set (u := .lst (nv ((p.take i).map fun j => l.getD j 0))) hD' (fun _ => nofun) (fun _ => nofun) (.inl hD), ?_⟩
        rw [upd_same, List.take_add_one, en, List.map_append, nv_append]
        rfl
    · rintro H' ⟨_, g, hD'⟩
      rw [nv_length, List.take_of_length_le (Nat.le_refl _), nv_ints] at hD'
      have hpos : 0 < ((p.map fun j => l.getD j 0).map Int.ofNat).length := by rw [List.length_map, List.length_map]; exact hne
      refine ⟨_, rfl, D, _, rfl, SqL.of hD', hpos, fun M hM hMl => ⟨_, rfl, D, _, rfl, SqL.of hD', hpos, fun mm hm hml => ⟨_, _, rfl, rfl, ?_⟩⟩⟩
      show Q (.int (M - mm)) H'
      rw [spr_mm hM hMl hm hml]
      exact fin H' g

/-! ### packed -/
def spPacked (T : Tb) : Sp := fun vs H Q _ => ∃ (a : Addr) (l : List Nat) (k d : Nat), vs = [.ref a, .int k, .int d] ∧ H a = some (.lst (nv l)) ∧ l.length ≤ 30 ∧ 1 ≤ k ∧ T.Ok H ∧
  ∀ (H' : Hp) (p : Addr) (ps : List Addr), Go T none H H' → H p = none → H' p = some (.lst (ps.map V.ref)) → PunAt H' ps (punnetsBy k d l) → Q (.ref p) H'
theorem scPk : FnScope ["widths", "each", "differ", "row", "punnets", "first", "mushrooms"] ["widths", "each", "differ"] (defScope s_packed) := ⟨rfl, rfl, rfl, by decide +kernel, rfl, by decide +kernel, by decide +kernel⟩
theorem PunAt.snoc {H : Hp} {q : Addr} {l : List Nat} : ∀ {ps : List Addr} {pp : List (List Nat)}, PunAt H ps pp → H q = some (.lst (nv l)) → PunAt H (ps ++ [q]) (pp ++ [l])
  | _, _, .nil, e => .cons e .nil
  | _, _, .cons h t, e => .cons h (PunAt.snoc t e)
theorem pun_keep {H H' : Hp} : ∀ {ps : List Addr} {pp : List (List Nat)}, PunAt H ps pp → (∀ t ∈ ps, ∀ {o}, H t = some o → H' t = some o) → PunAt H' ps pp
  | _, _, .nil, _ => .nil
  | _, _, .cons h t, k => .cons (k _ (List.mem_cons_self ..) h) (pun_keep t fun s hs {o} e => k s (List.mem_cons_of_mem _ hs) e)
theorem ok_packed {f fR fS C : Addr} {fd fdR fdS : FuncData} {Tt : Tb} {kR : Nat} (F : Fun K "packed" "packed" s_packed f fd) (T : Txt K mg C) (GR : FnOk P w K mg base CX0 (kR + 1) fR fdR ["widths"] (spInRow Tt)) (bR : Binds K fdR ["widths"] []) (mR : mg "in_row" = some (.ref fR))
    (kpR : PySem.W.keepIn K (.ref fR) = true) (DS : Dn K mg "spread_of" s_spread_of ["widths", "mushrooms"] fS fdS) : FnOk P w K mg base CX0 (kR + 2) f fd ["widths", "each", "differ"] (spPacked Tt) := by
  have GS : FnOk P w K mg base CX0 1 fS fdS ["widths", "mushrooms"] (spSpread Tt) := ok_spread_of DS.fn T
  refine F.ok scPk (fun vs H Q E h => ?_) (fun cdv A outer s H vs Q E hr h => ?_)
  · obtain ⟨a, l, k, d, rfl, _⟩ := h
    rfl
  · obtain ⟨a, l, k, d, rfl, ha, hl, hk, hT, fin⟩ := h
    have hr1 : Room 1 _ := hr.mono (by omega)
    refine ⟨_, pss_cons (ps_set (i := 3) scPk.nd rfl (Or.inl rfl) (pe_call GR hr rfl mR kpR bR .nil pass0 (pa_cons (pv 0) pa_nil)))
      (pss_cons (ps_set (i := 4) scPk.nd rfl (Or.inl rfl) (pe_lst pa_nil))
      (pss_cons (ps_set (i := 5) scPk.nd rfl (Or.inl rfl) pe_int)
      (pss_cons (ps_while PassesOwn.never (pt_cmpR op_le (pe_op op_add (pv 5) (pv 1)) (pe_callB call_len_seq rfl T.len PySem.boot_len (pa_cons (pv 3) pa_nil)) (nomark _))
        (pss_cons (ps_set (i := 6) scPk.nd rfl (Or.inl rfl) (pe_slice sl_list (pv 3) (po_some (pv 5)) (po_some (pe_op op_add (pv 5) (pv 1)))))
        (pss_one (ps_if (pt_cmpR op_le (pe_call GS hr1 rfl DS.mg_ DS.fn.kp DS.bd .nil pass0 (pa_cons (pv 0) (pa_cons (pv 6) pa_nil))) (pv 2) (nomark _))
          (pss_cons (ps_expr (pe_bm PySem.F.plainAttrs_list PySem.F.slot_list_append PySem.F.type_list_append mt_append (pv 4) (pa_cons (pv 6) pa_nil)))
            (pss_one (ps_set (i := 5) scPk.nd rfl (Or.inl rfl) (pe_op op_add (pv 5) (pv 1)))))
          (pss_one (ps_set (i := 5) scPk.nd rfl (Or.inl rfl) (pe_op op_add (pv 5) pe_int)))))))
      (pss_one (ps_ret (pv 4)))))), ?_⟩
    refine ⟨_, rfl, a, l, rfl, ha, hl, hT, fun H1 r g1 nr hr1 => ?_⟩
    refine ⟨Nat.zero_le _, fun p hp => ?_⟩
    have np : H p = none := g1.free nofun hp
    have rl : (inTurn l).length = l.length := inTurn_length l
    refine while_by (fun σ H' => ∃ (i : Nat) (ps : List Addr) (lv : Option V) (done : List (List Nat)), σ = [some (.ref a), some (.int k), some (.int d), some (.ref r), some (.ref p), some (.int i), lv] ∧ i ≤ l.length ∧ Go Tt none H H' ∧
        H' r = some (.lst (nv (inTurn l))) ∧ H' p = some (.lst (ps.map V.ref)) ∧ PunAt H' ps done ∧ p ∉ ps ∧ done.length ≤ i ∧ punnetsBy k d l = done ++ pk k d l ((inTurn l).drop i))
      (fun σ _ => match σ with | [_, _, _, _, _, some (.int i), _] => l.length - i.toNat | _ => 0) ?_ ?_ ?_
    · refine ⟨0, [], none, [], rfl, Nat.zero_le _, g1.new hp, ?_, upd_same, .nil, List.not_mem_nil, Nat.le_refl _, ?_⟩
      · rw [upd_ne (ne_of_none hr1 hp)]
        exact hr1
      · rw [List.drop_zero, List.nil_append]
        exact punnetsBy_eq k d l
    · rintro σ H' ⟨i, ps, lv, done, rfl, hi, g, h1, h2, h3, hpp, h4, h5⟩
      have hnl : (nv (inTurn l)).length = l.length := by rw [nv_length, rl]
      have hdl : ((inTurn l).drop i).length = l.length - i := by rw [List.length_drop, rl]
      refine ⟨_, rfl, _, rfl, _, _, rfl, rfl, _, rfl, r, _, rfl, .inl (SqL.of h1), _, _, rfl, rfl, _, rfl, ?_⟩
      refine ite2 (fun hlt => ?_) (fun hge => ?_)
      · have hlt' : i + k ≤ l.length := by have := of_decide_eq_true hlt; rw [hnl] at this; omega
        have hfit : fits k d l ((inTurn l).drop i) = decide (spr l (((inTurn l).drop i).take k) ≤ d) := fits_run (List.drop_sublist _ _) hk (by omega)
        obtain ⟨xi, hxi⟩ : ∃ x, (inTurn l)[i]? = some x := ⟨_, List.getElem?_eq_getElem (by omega)⟩
        have hd : (inTurn l).drop i = xi :: (inTurn l).drop (i + 1) := by
          obtain ⟨z1, z2⟩ := List.getElem?_eq_some_iff.mp hxi
          rw [List.drop_eq_getElem_cons z1, z2]
        refine ⟨_, rfl, _, rfl, _, rfl, _, rfl, _, rfl, _, _, rfl, rfl, _, rfl, r, _, rfl, SqL.of h1, fun q hq => ?_⟩
        have hcut : cutV (nv (inTurn l)) (some (i : Int)) (some ((i : Int) + (k : Int))) = nv (((inTurn l).drop i).take k) := by
          rw [show (i : Int) + (k : Int) = ((i + k : Nat) : Int) by omega, cut_ab (by rw [hnl]; omega) (by omega), nv_drop, nv_take, show i + k - i = k by omega]
        rw [hcut]
        have g2 := g.new (o := .lst (nv (((inTurn l).drop i).take k))) hq
        have pq : p ≠ q := ne_of_none h2 hq
        have rq : r ≠ q := ne_of_none h1 hq
        have tk : (((inTurn l).drop i).take k).length = k := by rw [List.length_take]; omega
        refine ⟨_, rfl, _, rfl, a, q, l, ((inTurn l).drop i).take k, rfl, g2.lst ha, upd_same, fun j hj => (inTurn_mem l).mp (List.mem_of_mem_drop (List.mem_of_mem_take hj)), (by omega), (by omega), g2.ok', fun H3 g3 => ⟨_, rfl, _, _, rfl, rfl, _, rfl, ?_⟩⟩
        have h1' : H3 r = some (.lst (nv (inTurn l))) := g3.lst (by rw [upd_ne rq]; exact h1)
        have h2' : H3 p = some (.lst (ps.map V.ref)) := g3.lst (by rw [upd_ne pq]; exact h2)
        have hq' : H3 q = some (.lst (nv (((inTurn l).drop i).take k))) := g3.lst upd_same
        have h3' : PunAt H3 ps done := (h3.go ((Go.refl g.ok').new hq)).go g3
        have g23 := g2.trans g3
        refine ite2 (fun hle => ?_) (fun hnle => ?_)
        · have hle' : spr l (((inTurn l).drop i).take k) ≤ d := by have := of_decide_eq_true hle; omega
          have hy : fits k d l ((inTurn l).drop i) = true := by rw [hfit]; exact decide_eq_true hle'
          refine ⟨_, rfl, .inl ⟨rfl, _, SqL.of h2'⟩, _, rfl, p, _, _, rfl, rfl, h2', ?_, ?_⟩
          · rw [List.length_map]
            have e1 : ps.length = done.length := Paired.length h3
            rw [sizeLine_eq]
            omega
          · refine ⟨_, rfl, _, rfl, _, _, rfl, rfl, ⟨i + k, ps ++ [q], some (V.ref q), done ++ [((inTurn l).drop i).take k], ?_, by omega, ?_, ?_, ?_, ?_, ?_, ?_, ?_⟩, ?_⟩
            · show [some (V.ref a), some (V.int k), some (V.int d), some (V.ref r), some (V.ref p), some (V.int ((i : Int) + (k : Int))), some (V.ref q)] = _
              rw [show (i : Int) + (k : Int) = ((i + k : Nat) : Int) by omega]
            · exact g23.set (u := .lst (ps.map V.ref)) h2' (fun _ => nofun) (fun _ => nofun) (.inl np)
            · have rp : r ≠ p := ne_of_none hr1 hp
              rw [upd_ne rp]
              exact h1'
            · rw [upd_same, List.map_append]
              rfl
            · refine PunAt.snoc (pun_keep h3' fun t ht {o} e => ?_) ?_
              · have tp : t ≠ p := fun z => hpp (by rw [← z]; exact ht)
                rw [upd_ne tp]
                exact e
              · rw [upd_ne pq.symm]
                exact hq'
            · intro z
              rcases List.mem_append.mp z with z | z
              · exact hpp z
              · exact pq (List.mem_singleton.mp z)
            · rw [List.length_append]
              simp only [List.length_cons, List.length_nil]
              omega
            · rw [h5, pk_yes k d l hk hy, List.drop_drop, List.append_assoc]
              rfl
            · show l.length - ((i : Int) + (k : Int)).toNat < l.length - (i : Int).toNat
              omega
        · have hn : fits k d l ((inTurn l).drop i) = false := by rw [hfit]; exact decide_eq_false (fun z => hnle (decide_eq_true (by omega)))
          refine ⟨_, rfl, _, _, rfl, rfl, ⟨i + 1, ps, _, done, rfl, by omega, g23, h1', h2', h3', hpp, by omega, ?_⟩, ?_⟩
          · rw [h5, hd, pk_no k d l (by rw [← hd]; exact hn)]
          · show l.length - ((i : Int) + 1).toNat < l.length - (i : Int).toNat
            omega
      · have hge' : l.length < i + k := by
          have : ¬ ((i : Int) + (k : Int) ≤ ((nv (inTurn l)).length : Int)) := fun z => hge (decide_eq_true z)
          rw [hnl] at this
          omega
        refine ⟨_, rfl, ?_⟩
        refine fin H' p ps g np h2 ?_
        rw [h5, pk_short _ (by omega), List.append_nil]
        exact h3
    · intro σ H Q Q' hq h
      obtain ⟨v, e1, v2, e2, i0, j0, e3, e4, v3, e5, x1, x2, e6, e7, i1, j1, e8, e9, b1, e10, z⟩ := h
      exact ⟨v, e1, v2, e2, i0, j0, e3, e4, v3, e5, x1, x2, e6, e7, i1, j1, e8, e9, b1, e10, hq _ _ z⟩
end
end Mush

namespace Mush
open PySem PySem.Spec PyProof.Rows L2 Kh366

theorem for_enum {K : PySem.W.Frag} {a : Addr} {xs : List V} {g : TG} {tb : TS} {D : Ends} {σ : L2.St} {H : Hp} (Pv : Nat → L2.St → Hp → Prop) (h0 : Pv 0 σ H) (hl : ∀ i σ H, i ≤ xs.length → Pv i σ H → SqL K H a xs)
    (hs : ∀ i x σ H T, xs[i]? = some x → Pv i σ H → H T = none → g (.ref T) σ (upd H T (.tup [.int (i : Nat), x])) fun σ2 H2 => tb { D with nx := Pv (i + 1), ct := Pv (i + 1), bk := D.nx } σ2 H2) (hd : ∀ σ H, Pv xs.length σ H → D.nx σ H) :
    ∃ W : Nat → Nat → L2.St → Hp → Prop, (∃ m, W 0 m σ H) ∧ ∀ i m σ H, W i m σ H →
      ((Ite K a).stop i H ∧ D.nx σ H) ∨ ((Ite K a).go i H ∧ ∃ N : L2.St → Hp → Prop, (∀ σ' H', N σ' H' → ∃ m', m' < m ∧ W (i + 1) m' σ' H') ∧ ∀ x H', (Ite K a).yld i H x H' → g x σ H' fun σ2 H2 => tb { D with nx := N, ct := N, bk := D.nx } σ2 H2) := by
  refine ⟨fun i m σ H => m = xs.length - i ∧ i ≤ xs.length ∧ Pv i σ H, ⟨xs.length, by simp, Nat.zero_le _, h0⟩, ?_⟩
  rintro i m σ H ⟨rfl, hi, p⟩
  have q := hl i σ H hi p
  by_cases hlt : i < xs.length
  · refine .inr ⟨⟨xs, xs[i], q, by simp [hlt]⟩, Pv (i + 1), fun σ' H' p' => ⟨xs.length - (i + 1), by omega, rfl, hlt, p'⟩, fun x H' y => ?_⟩
    obtain ⟨T, y, rfl, nT, rfl, hy⟩ := y
    exact hs i y σ H T (hy xs q) p nT
  · have e : i = xs.length := by omega
    subst e
    exact .inl ⟨⟨xs, q, Nat.le_refl _⟩, hd σ H p⟩
theorem inV_nv (i : Nat) : ∀ l : List Nat, inV (.int (i : Int)) (nv l) = l.contains i
  | [] => rfl
  | n :: l => by
    show (eqV (.int n) (.int i) || inV (.int (i : Int)) (nv l)) = (i == n || l.contains i)
    rw [inV_nv i l]
    congr 1
    show ((n : Int) == (i : Int)) = (i == n)
    by_cases h : n = i
    · subst h; simp
    · rw [beq_eq_false_iff_ne.mpr (by omega : ¬ (n : Int) = i), beq_eq_false_iff_ne.mpr (fun z => h z.symm)]
theorem Paired.at_ {α β : Type} {F : α → β → Prop} : ∀ {xs : List α} {ys : List β}, Paired F xs ys → ∀ {i : Nat} {x : α}, xs[i]? = some x → ∃ y, ys[i]? = some y ∧ F x y
  | _, _, .nil, _, _, e => by simp at e
  | _, _, .cons r _, 0, _, e => by simp at e; subst e; exact ⟨_, rfl, r⟩
  | _, _, .cons _ t, i + 1, x, e => by
    obtain ⟨y, h1, h2⟩ := Paired.at_ t (i := i) (x := x) (by simpa using e)
    exact ⟨y, by simpa using h1, h2⟩
theorem Paired.at2 {α β : Type} {F : α → β → Prop} {xs : List α} {ys : List β} (h : Paired F xs ys) {i : Nat} {y : β} (e : ys[i]? = some y) : ∃ x, xs[i]? = some x ∧ F x y := by
  have hl := Paired.length h
  have hi : i < xs.length := by have := (List.getElem?_eq_some_iff.mp e).1; omega
  obtain ⟨y', h1, h2⟩ := Paired.at_ h (List.getElem?_eq_getElem hi)
  rw [e] at h1
  cases h1
  exact ⟨_, List.getElem?_eq_getElem hi, h2⟩

section
variable {P : Program} {w : World} {K : PySem.W.Frag} {mg : Str → Option Value} {base : Heap} {C : Addr} {Tt : Tb}

/-! ### packed_in -/
def spPackedIn (C : Addr) (T : Tb) : Sp := fun vs H Q _ => ∃ (x : Addr) (a : Abs), vs = [.ref x] ∧ ShedAt C H x true a ∧ Good a ∧ T.Ok H ∧
  ∀ (H' : Hp) (p : Addr) (ps : List Addr), Go T none H H' → H p = none → H' p = some (.lst (ps.map V.ref)) → PunAt H' ps (punnets a) → Q (.ref p) H'
theorem scPi : FnScope ["shed"] ["shed"] (defScope s_packed_in) := ⟨rfl, rfl, rfl, by decide +kernel, rfl, by decide +kernel, by decide +kernel⟩
theorem ok_packed_in {f fP : Addr} {fd fdP : FuncData} {kP : Nat} (F : Fun K "packed_in" "packed_in" s_packed_in f fd) (T : Txt K mg C) (GP : FnOk P w K mg base CX0 kP fP fdP ["widths", "each", "differ"] (spPacked Tt))
    (DP : Dn K mg "packed" s_packed ["widths", "each", "differ"] fP fdP) : FnOk P w K mg base CX0 (kP + 1) f fd ["shed"] (spPackedIn C Tt) := by
  refine F.ok scPi (fun vs H Q E h => ?_) (fun cdv A outer s H vs Q E hr h => ?_)
  · obtain ⟨x, a, rfl, _⟩ := h
    rfl
  · obtain ⟨x, a, rfl, ⟨dx, w0, u, ts, hx, hw, hu, hts⟩, hG, hT, fin⟩ := h
    refine ⟨_, pss_one (ps_ret (pe_call GP hr rfl DP.mg_ DP.fn.kp DP.bd .nil pass0 (pa_cons (pe_fld (pv 0) rfl) (pa_cons (pe_fld (pv 0) rfl) (pa_cons (pe_fld (pv 0) rfl) pa_nil))))), ?_⟩
    exact ⟨_, rfl, x, C, dx, _, _, rfl, hx, T.cl, T.nW, sh_widths, _, rfl, x, C, dx, _, _, rfl, hx, T.cl, T.nE, sh_each, _, rfl, x, C, dx, _, _, rfl, hx, T.cl, T.nD, sh_differ,
      w0, a.caps, a.each, a.differ, rfl, hw, (by have := hG.c24; omega), hG.e1, hT, fun H' p ps g n e pp => fin H' p ps g n e pp⟩

/-! ### punnet_with -/
def idxV (o : Option Nat) : V := match o with
  | some p => .int (p : Int)
  | none => .non
def spPunWith (T : Tb) : Sp := fun vs H Q _ => ∃ (q : Addr) (ps : List Addr) (pp : List (List Nat)) (i : Nat), vs = [.ref q, .int (i : Int)] ∧ H q = some (.lst (ps.map V.ref)) ∧ PunAt H ps pp ∧ T.Ok H ∧
  ∀ H' : Hp, Go T none H H' → Q (idxV (pp.findIdx? fun p => p.contains i)) H'
theorem scPw : FnScope ["punnets", "i", "p", "mushrooms"] ["punnets", "i"] (defScope s_punnet_with) := ⟨rfl, rfl, rfl, by decide +kernel, rfl, by decide +kernel, by decide +kernel⟩
theorem ok_punnet_with {f : Addr} {fd : FuncData} (F : Fun K "punnet_with" "punnet_with" s_punnet_with f fd) (T : Txt K mg C) : FnOk P w K mg base CX0 1 f fd ["punnets", "i"] (spPunWith Tt) := by
  refine F.ok scPw (fun vs H Q E h => ?_) (fun cdv A outer s H vs Q E hr h => ?_)
  · obtain ⟨q, ps, pp, i, rfl, _⟩ := h
    rfl
  · obtain ⟨q, ps, pp, i, rfl, hq, hp, hT, fin⟩ := h
    refine ⟨_, pss_cons (ps_for PassesOwn.never rfl (pi_enum rfl T.enumerate (pa_cons (pv 0) pa_nil)) (pg_tup rfl (pgs_cons (pg_name (i := 2) scPw.nd rfl (Or.inl rfl)) (pgs_cons (pg_name (i := 3) scPw.nd rfl (Or.inl rfl)) pgs_nil)))
        (pss_one (ps_if (pt_cmpR op_in_seq (pv 1) (pv 3) (by with_unfolding_all rfl)) (pss_one (ps_ret (pv 2))) pss_nil)))
      (pss_one (ps_ret pe_non)), ?_⟩
    refine ⟨_, rfl, q, _, rfl, SqL.of hq, for_enum (xs := ps.map V.ref) (fun j σ H' => ∃ pv mv : Option V, σ = [some (.ref q), some (.int i), pv, mv] ∧ Go Tt none H H' ∧ ∀ m l, m < j → pp[m]? = some l → l.contains i = false)
      ⟨none, none, rfl, Go.refl hT, fun m l hm => absurd hm (Nat.not_lt_zero _)⟩ (fun j σ H' _ ⟨_, _, _, g, _⟩ => SqL.of (g.lst hq)) ?_ ?_⟩
    · rintro j y σ H' T' hy ⟨pv', mv, rfl, g, hno⟩ nT
      obtain ⟨t, ht, rfl⟩ : ∃ t, ps[j]? = some t ∧ y = V.ref t := by
        rw [List.getElem?_map] at hy
        cases e : ps[j]? with
        | none => rw [e] at hy; cases hy
        | some t => rw [e] at hy; exact ⟨t, rfl, (Option.some.inj hy).symm⟩
      obtain ⟨l, hl, hlt⟩ := Paired.at_ hp ht
      have g2 := g.new (o := .tup [.int (j : Nat), .ref t]) nT
      have hl' := g2.lst hlt
      refine ⟨T', _, rfl, SqT.of upd_same, rfl, _, _, rfl, _, _, rfl, rfl, ?_⟩
      refine ⟨_, rfl, _, rfl, t, _, rfl, .inl (SqL.of hl'), rfl, nv_flat l, _, rfl, ?_⟩
      show if (inV (.int (i : Int)) (nv l)) = true then _ else _
      rw [inV_nv]
      cases hc : l.contains i with
      | true =>
        refine iteT ⟨_, rfl, ?_⟩
        have e : pp.findIdx? (fun p => p.contains i) = some j := by
          rw [List.findIdx?_eq_some_iff_getElem]
          obtain ⟨z1, z2⟩ := List.getElem?_eq_some_iff.mp hl
          refine ⟨z1, by rw [z2]; exact hc, fun m hm => ?_⟩
          rw [hno m _ hm (List.getElem?_eq_getElem (by omega))]
          exact Bool.false_ne_true
        have := fin _ g2
        rw [e] at this
        exact this
      | false =>
        refine iteF ⟨_, _, rfl, g2, fun m l2 hm hm2 => ?_⟩
        by_cases z : m = j
        · subst z
          rw [hl] at hm2
          cases hm2
          exact hc
        · exact hno m l2 (by omega) hm2
    · rintro σ H' ⟨pv', mv, rfl, g, hno⟩
      have e : pp.findIdx? (fun p => p.contains i) = none := by
        rw [List.findIdx?_eq_none_iff]
        intro l hl
        obtain ⟨m, hm⟩ := List.getElem?_of_mem hl
        have hml : m < (ps.map V.ref).length := by
          rw [List.length_map, Paired.length hp]
          exact (List.getElem?_eq_some_iff.mp hm).1
        rw [hno m l hml hm]
      have := fin H' g
      rw [e] at this
      exact this

/-! ### the shed's methods -/
def spInit (C : Addr) (T : Tb) : Sp := fun vs H Q _ => ∃ (x dx : Addr), vs = [.ref x] ∧ H x = some (.ins C dx []) ∧ T.Ok H ∧ ∀ H' : Hp, ShedAt C H' x false ⟨0, 0, [], []⟩ → Go T (some x) H H' → Q .non H'
def f1 : List (Str × V) := [("begun", .bl false)]
def f2 : List (Str × V) := [("begun", .bl false), ("each", .int 0)]
def f3 : List (Str × V) := [("begun", .bl false), ("each", .int 0), ("differ", .int 0)]
def f4 (w : Addr) : List (Str × V) := [("begun", .bl false), ("each", .int 0), ("differ", .int 0), ("widths", .ref w)]
theorem e2 : putF "each" (.int 0) f1 = f2 := by unfold f1; rw [pf_miss (by decide +kernel)]; rfl
theorem e3 : putF "differ" (.int 0) f2 = f3 := by unfold f2; rw [pf_miss (by decide +kernel), pf_miss (by decide +kernel)]; rfl
theorem e4 (w : Addr) : putF "widths" (.ref w) f3 = f4 w := by unfold f3; rw [pf_miss (by decide +kernel), pf_miss (by decide +kernel), pf_miss (by decide +kernel)]; rfl
theorem e5 (w u : Addr) : putF "earlier" (.ref u) (f4 w) = shF false 0 0 w u := by
  unfold f4; rw [pf_miss (by decide +kernel), pf_miss (by decide +kernel), pf_miss (by decide +kernel), pf_miss (by decide +kernel)]; rfl
theorem scIn : FnScope ["self"] ["self"] (defScope s_Shed_init) := ⟨rfl, rfl, rfl, by decide +kernel, rfl, by decide +kernel, by decide +kernel⟩
theorem ok_init {f : Addr} {fd : FuncData} (F : Fun K "__init__" "Shed.__init__" s_Shed_init f fd) (T : Txt K mg C) : FnOk P w K mg base CX0 1 f fd ["self"] (spInit C Tt) := by
  refine F.ok scIn (fun vs H Q E h => ?_) (fun cdv A outer s H vs Q E hr h => ?_)
  · obtain ⟨p, dx, rfl, _⟩ := h
    rfl
  · obtain ⟨x, dx, rfl, hx, hT, fin⟩ := h
    refine ⟨_, pss_cons (ps_fld (pv 0) pe_bl rfl) (pss_cons (ps_fld (pv 0) pe_int rfl) (pss_cons (ps_fld (pv 0) pe_int rfl) (pss_cons (ps_fld (pv 0) (pe_lst pa_nil) rfl) (pss_one (ps_fld (pv 0) (pe_lst pa_nil) rfl))))), ?_⟩
    refine ⟨_, rfl, x, C, dx, [], rfl, hx, T.cl, T.nB, (by show 0 < 1000; decide), ?_⟩
    refine ⟨_, rfl, x, C, dx, f1, rfl, upd_same, T.cl, T.nE, (by show 1 < 1000; decide), ?_⟩
    rw [e2, upd_upd]
    refine ⟨_, rfl, x, C, dx, f2, rfl, upd_same, T.cl, T.nD, (by show 2 < 1000; decide), ?_⟩
    rw [e3, upd_upd]
    have g0 : Go Tt (some x) H (upd H x (.ins C dx f3)) := (Go.refl hT).set hx (fun _ => nofun) (fun _ => nofun) (.inr rfl)
    refine ⟨Nat.zero_le _, fun w0 hw => ?_⟩
    have xw : x ≠ w0 := fun z => by rw [← z, upd_same] at hw; cases hw
    refine ⟨_, rfl, x, C, dx, f3, rfl, (by rw [upd_ne xw, upd_same]), T.cl, T.nW, (by show 3 < 1000; decide), ?_⟩
    rw [e4]
    have g1 := (g0.new (o := .lst []) hw).set (o := .ins C dx (f4 w0)) (p := x) (u := .ins C dx f3) (by rw [upd_ne xw, upd_same]) (fun _ => nofun) (fun _ => nofun) (.inr rfl)
    refine ⟨Nat.zero_le _, fun u hu => ?_⟩
    have xu : x ≠ u := fun z => by rw [← z, upd_same] at hu; cases hu
    have wu : w0 ≠ u := fun z => by rw [← z, upd_ne xw.symm, upd_same] at hu; cases hu
    refine ⟨_, rfl, x, C, dx, (f4 w0), rfl, (by rw [upd_ne xu, upd_same]), T.cl, T.nU, (by show 4 < 1000; decide), ?_⟩
    rw [e5]
    refine fin _ ⟨dx, w0, u, [], upd_same, ?_, ?_, .nil⟩ ((g1.new (o := .lst []) hu).set (u := .ins C dx (f4 w0)) (by rw [upd_ne xu, upd_same]) (fun _ => nofun) (fun _ => nofun) (.inr rfl))
    · rw [upd_ne xw.symm, upd_ne wu, upd_ne xw.symm, upd_same]
      rfl
    · rw [upd_ne xu.symm, upd_same]
      rfl
end
end Mush

namespace Mush
open PySem PySem.Spec PyProof.Rows L2 Kh366
theorem Paired.snoc' {α β : Type} {F : α → β → Prop} {x : α} {y : β} : ∀ {xs : List α} {ys : List β}, Paired F xs ys → F x y → Paired F (xs ++ [x]) (ys ++ [y])
  | _, _, .nil, e => .cons e .nil
  | _, _, .cons h t, e => .cons h (Paired.snoc' t e)
theorem Paired.drop' {α β : Type} {F : α → β → Prop} : ∀ {xs : List α} {ys : List β} (n : Nat), Paired F xs ys → Paired F (xs.drop n) (ys.drop n)
  | _, _, 0, h => h
  | _, _, _ + 1, .nil => .nil
  | _, _, n + 1, .cons _ t => Paired.drop' n t
/-- the last pair -/
theorem Paired.last' {α β : Type} {F : α → β → Prop} {y : β} : ∀ {xs : List α} {ys : List β}, Paired F xs (ys ++ [y]) → ∃ xs' x, xs = xs' ++ [x] ∧ Paired F xs' ys ∧ F x y
  | _, [], h => by
    cases h with
    | cons r t => cases t; exact ⟨[], _, rfl, .nil, r⟩
  | _, z :: ys, h => by
    cases h with
    | cons r t =>
      obtain ⟨xs', x, rfl, h1, h2⟩ := Paired.last' t
      exact ⟨_ :: xs', x, rfl, .cons r h1, h2⟩
theorem KeptAt.keep {H H' : Hp} {t : Addr} {x : Nat × Nat × List Nat} (h : KeptAt H t x) (k : ∀ b xs, (H b = some (.tup xs) → H' b = some (.tup xs)) ∧ (H b = some (.lst xs) → H' b = some (.lst xs))) : KeptAt H' t x :=
  let ⟨w, h1, h2⟩ := h; ⟨w, (k _ _).1 h1, (k _ _).2 h2⟩
/-- lists and tuples stay where x alone, an instance, is changed -/
theorem Go.seqs {T : Tb} {x : Addr} {H H' : Hp} (g : Go T (some x) H H') {C dx : Addr} {fs : List (Str × V)} (hx : H x = some (.ins C dx fs)) : ∀ b xs, (H b = some (.tup xs) → H' b = some (.tup xs)) ∧ (H b = some (.lst xs) → H' b = some (.lst xs)) := fun b xs =>
  ⟨fun e => g.ofx e (fun _ => nofun) (ne_of e hx nofun), fun e => g.ofx e (fun _ => nofun) (ne_of e hx nofun)⟩

section
variable {P : Program} {w : World} {K : PySem.W.Frag} {mg : Str → Option Value} {base : Heap} {C : Addr} {Tt : Tb}

/-! ### set_up -/
def spSetUp (C : Addr) (T : Tb) : Sp := fun vs H Q _ => ∃ (x : Addr) (k d : Nat), vs = [.ref x, .int (k : Int), .int (d : Int)] ∧ (∃ b a, ShedAt C H x b a) ∧ T.Ok H ∧ ∀ H' : Hp, ShedAt C H' x true ⟨k, d, [], []⟩ → Go T (some x) H H' → Q .non H'
theorem scSu : FnScope ["self", "each", "differ"] ["self", "each", "differ"] (defScope s_Shed_set_up) := ⟨rfl, rfl, rfl, by decide +kernel, rfl, by decide +kernel, by decide +kernel⟩
theorem small5 {b : Bool} {e d : Int} {w u : Addr} : (shF b e d w u).length < 1000 := by show 5 < 1000; decide
theorem ok_set_up {f : Addr} {fd : FuncData} (F : Fun K "set_up" "Shed.set_up" s_Shed_set_up f fd) (T : Txt K mg C) : FnOk P w K mg base CX0 1 f fd ["self", "each", "differ"] (spSetUp C Tt) := by
  refine F.ok scSu (fun vs H Q E h => ?_) (fun cdv A outer s H vs Q E hr h => ?_)
  · obtain ⟨p, k, d, rfl, _⟩ := h
    rfl
  · obtain ⟨x, k, d, rfl, ⟨b, a, dx, w0, u0, ts, hx, hw, hu, hts⟩, hT, fin⟩ := h
    refine ⟨_, pss_cons (ps_fld (pv 0) pe_bl rfl) (pss_cons (ps_fld (pv 0) (pv 1) rfl) (pss_cons (ps_fld (pv 0) (pv 2) rfl) (pss_cons (ps_fld (pv 0) (pe_lst pa_nil) rfl) (pss_one (ps_fld (pv 0) (pe_lst pa_nil) rfl))))), ?_⟩
    refine ⟨_, rfl, x, C, dx, _, rfl, hx, T.cl, T.nB, small5, ?_⟩
    rw [put_begun]
    refine ⟨_, rfl, _, rfl, x, C, dx, _, rfl, upd_same, T.cl, T.nE, small5, ?_⟩
    rw [put_each, upd_upd]
    refine ⟨_, rfl, _, rfl, x, C, dx, _, rfl, upd_same, T.cl, T.nD, small5, ?_⟩
    rw [put_differ, upd_upd]
    have g0 : Go Tt (some x) H (upd H x (.ins C dx (shF true k d w0 u0))) := (Go.refl hT).set hx (fun _ => nofun) (fun _ => nofun) (.inr rfl)
    refine ⟨Nat.zero_le _, fun w1 hw1 => ?_⟩
    have xw : x ≠ w1 := fun z => by rw [← z, upd_same] at hw1; cases hw1
    refine ⟨_, rfl, x, C, dx, shF true k d w0 u0, rfl, (by rw [upd_ne xw, upd_same]), T.cl, T.nW, small5, ?_⟩
    rw [put_widths]
    have g1 := (g0.new (o := .lst []) hw1).set (o := .ins C dx (shF true k d w1 u0)) (p := x) (u := .ins C dx (shF true k d w0 u0)) (by rw [upd_ne xw, upd_same]) (fun _ => nofun) (fun _ => nofun) (.inr rfl)
    refine ⟨Nat.zero_le _, fun u hu1 => ?_⟩
    have xu : x ≠ u := fun z => by rw [← z, upd_same] at hu1; cases hu1
    have wu : w1 ≠ u := fun z => by rw [← z, upd_ne xw.symm, upd_same] at hu1; cases hu1
    refine ⟨_, rfl, x, C, dx, shF true k d w1 u0, rfl, (by rw [upd_ne xu, upd_same]), T.cl, T.nU, small5, ?_⟩
    rw [put_earlier]
    refine fin _ ⟨dx, w1, u, [], upd_same, ?_, ?_, .nil⟩ ((g1.new (o := .lst []) hu1).set (u := .ins C dx (shF true k d w1 u0)) (by rw [upd_ne xu, upd_same]) (fun _ => nofun) (fun _ => nofun) (.inr rfl))
    · rw [upd_ne xw.symm, upd_ne wu, upd_ne xw.symm, upd_same]
      rfl
    · rw [upd_ne xu.symm, upd_same]
      rfl

/-! ### change -/
def spChange (C : Addr) (T : Tb) : Sp := fun vs H Q _ => ∃ (x w : Addr) (a : Abs) (k d : Nat) (l : List Nat), vs = [.ref x, .int (k : Int), .int (d : Int), .ref w] ∧ ShedAt C H x true a ∧ a.undo.length ≤ 10 ∧ H w = some (.lst (nv l)) ∧ T.Ok H ∧
  ∀ H' : Hp, ShedAt C H' x true (keep a ⟨k, d, l, []⟩) → Go T (some x) H H' → Q .non H'
theorem scCh : FnScope ["self", "each", "differ", "widths", "kept"] ["self", "each", "differ", "widths"] (defScope s_Shed_change) := ⟨rfl, rfl, rfl, by decide +kernel, rfl, by decide +kernel, by decide +kernel⟩
theorem ok_change {f : Addr} {fd : FuncData} (F : Fun K "change" "Shed.change" s_Shed_change f fd) (T : Txt K mg C) : FnOk P w K mg base CX0 1 f fd ["self", "each", "differ", "widths"] (spChange C Tt) := by
  refine F.ok scCh (fun vs H Q E h => ?_) (fun cdv A outer s H vs Q E hr h => ?_)
  · obtain ⟨p, w, a, k, d, l, rfl, _⟩ := h
    rfl
  · obtain ⟨x, w1, a, k, d, l, rfl, ⟨dx, w0, u0, ts, hx, hw, hu, hts⟩, h10, hw1, hT, fin⟩ := h
    refine ⟨_, pss_cons (ps_set (i := 4) scCh.nd rfl (Or.inl rfl) (pe_op op_cat (pe_fld (pv 0) rfl) (pe_lst (pa_cons (pe_tup (pa_cons (pe_fld (pv 0) rfl) (pa_cons (pe_fld (pv 0) rfl) (pa_cons (pe_fld (pv 0) rfl) pa_nil)))) pa_nil))))
      (pss_cons (ps_fld (pv 0) (pe_slice sl_list (pv 4) (po_some (pe_un un_neg (pe_gi rfl T.mBack))) po_none) rfl)
      (pss_cons (ps_fld (pv 0) (pv 1) rfl) (pss_cons (ps_fld (pv 0) (pv 2) rfl) (pss_one (ps_fld (pv 0) (pv 3) rfl))))), ?_⟩
    have tl : ts.length = a.undo.length := by rw [Paired.length hts, List.length_reverse]
    refine ⟨_, rfl, x, C, dx, _, _, rfl, hx, T.cl, T.nU, sh_earlier, _, rfl, x, C, dx, _, _, rfl, hx, T.cl, T.nE, sh_each, _, rfl, x, C, dx, _, _, rfl, hx, T.cl, T.nD, sh_differ, _, rfl, x, C, dx, _, _, rfl, hx, T.cl, T.nW, sh_widths, (by show 3 ≤ sizeLine; decide), fun t ht => ?_⟩
    refine ⟨(by show 1 ≤ sizeLine; decide), fun q hq => ?_⟩
    have nq : H q = none := by
      have tq : q ≠ t := fun z => by rw [z, upd_same] at hq; cases hq
      rw [upd_ne tq] at hq; exact hq
    have g1 : Go Tt none H (upd H t (.tup [.int a.each, .int a.differ, .ref w0])) := (Go.refl hT).new ht
    have g2 := g1.new (o := .lst [.ref t]) hq
    refine ⟨u0, q, _, _, rfl, rfl, g2.lst hu, upd_same, ?_, fun p hp => ?_⟩
    · rw [List.length_map, sizeLine_eq]
      simp only [List.length_cons, List.length_nil]
      omega
    have g3 := g2.new (o := .lst (ts.map V.ref ++ [.ref t])) hp
    refine ⟨_, rfl, _, rfl, _, rfl, p, _, rfl, SqL.of upd_same, fun r hr' => ?_⟩
    have ecut : cutV (ts.map V.ref ++ [V.ref t]) (some (-(10 : Int))) none = ((ts ++ [t]).drop (ts.length + 1 - 10)).map V.ref := by
      have e := cut_tail (ts.map V.ref ++ [V.ref t]) 9
      rw [show (-(((9 : Nat) : Int) + 1)) = (-(10 : Int)) by omega] at e
      rw [e, List.length_append, List.length_map, List.map_drop, List.map_append]
      rfl
    rw [ecut]
    have g4 := g3.new (o := .lst (((ts ++ [t]).drop (ts.length + 1 - 10)).map V.ref)) hr'
    have hx4 := g4.of hx fun _ => nofun
    refine ⟨_, rfl, x, C, dx, _, rfl, hx4, T.cl, T.nU, small5, ?_⟩
    rw [put_earlier]
    refine ⟨_, rfl, _, rfl, x, C, dx, _, rfl, upd_same, T.cl, T.nE, small5, ?_⟩
    rw [put_each, upd_upd]
    refine ⟨_, rfl, _, rfl, x, C, dx, _, rfl, upd_same, T.cl, T.nD, small5, ?_⟩
    rw [put_differ, upd_upd]
    refine ⟨_, rfl, _, rfl, x, C, dx, _, rfl, upd_same, T.cl, T.nW, small5, ?_⟩
    rw [put_widths, upd_upd]
    have gx : Go Tt (some x) H (upd (upd (upd (upd (upd H t (.tup [.int a.each, .int a.differ, .ref w0])) q (.lst [.ref t])) p (.lst (ts.map V.ref ++ [.ref t]))) r (.lst (((ts ++ [t]).drop (ts.length + 1 - 10)).map V.ref))) x (.ins C dx (shF true k d w1 r))) :=
      g4.weak.set hx4 (fun _ => nofun) (fun _ => nofun) (.inr rfl)
    have sq := gx.seqs hx
    have xr : r ≠ x := fun z => by rw [z] at hr'; rw [g3.of hx fun _ => nofun] at hr'; cases hr'
    refine fin _ ⟨dx, w1, r, (ts ++ [t]).drop (ts.length + 1 - 10), upd_same, (sq _ _).2 hw1, by rw [upd_ne xr, upd_same], ?_⟩ gx
    have eu : (keep a ⟨k, d, l, []⟩).undo.reverse = (a.undo.reverse ++ [(a.each, a.differ, a.caps)]).drop (ts.length + 1 - 10) := by
      show (((a.each, a.differ, a.caps) :: a.undo).take BACK).reverse = _
      rw [List.reverse_take, List.reverse_cons, List.length_cons, tl]
      rfl
    rw [eu]
    refine Paired.drop' _ (Paired.snoc' (hts.keep sq) ⟨w0, ?_, (sq _ _).2 hw⟩)
    have xt : t ≠ x := fun z => by rw [z, hx] at ht; cases ht
    have tq : t ≠ q := fun z => by rw [← z, upd_same] at hq; cases hq
    have tp : t ≠ p := fun z => by rw [← z, upd_ne tq, upd_same] at hp; cases hp
    have tr : t ≠ r := fun z => by rw [← z, upd_ne tp, upd_ne tq, upd_same] at hr'; cases hr'
    rw [upd_ne xt, upd_ne tr, upd_ne tp, upd_ne tq, upd_same]

/-! ### take_back -/
def spBack (C : Addr) (T : Tb) : Sp := fun vs H Q _ => ∃ (x : Addr) (a : Abs) (y : Nat × Nat × List Nat) (u : List (Nat × Nat × List Nat)), vs = [.ref x] ∧ ShedAt C H x true a ∧ a.undo = y :: u ∧ T.Ok H ∧
  ∀ H' : Hp, ShedAt C H' x true ⟨y.1, y.2.1, y.2.2, u⟩ → Go T (some x) H H' → Q .non H'
theorem scTb : FnScope ["self", "before"] ["self"] (defScope s_Shed_take_back) := ⟨rfl, rfl, rfl, by decide +kernel, rfl, by decide +kernel, by decide +kernel⟩
theorem ok_take_back {f : Addr} {fd : FuncData} (F : Fun K "take_back" "Shed.take_back" s_Shed_take_back f fd) (T : Txt K mg C) : FnOk P w K mg base CX0 1 f fd ["self"] (spBack C Tt) := by
  refine F.ok scTb (fun vs H Q E h => ?_) (fun cdv A outer s H vs Q E hr h => ?_)
  · obtain ⟨p, a, y, u, rfl, _⟩ := h
    rfl
  · obtain ⟨x, a, y, u, rfl, ⟨dx, w0, u0, ts, hx, hw, hu, hts⟩, hyu, hT, fin⟩ := h
    rw [hyu, List.reverse_cons] at hts
    obtain ⟨ts', t, rfl, ht', w1, ht, hw1⟩ := Paired.last' hts
    refine ⟨_, pss_cons (ps_set (i := 1) scTb.nd rfl (Or.inl rfl) (pe_ix ix_list (pe_fld (pv 0) rfl) (pe_un un_neg pe_int) (fun _ _ => rfl)))
      (pss_cons (ps_fld (pv 0) (pe_slice sl_list (pe_fld (pv 0) rfl) po_none (po_some (pe_un un_neg pe_int))) rfl)
      (pss_cons (ps_fld (pv 0) (pe_ix ix_tup (pv 1) pe_int (fun _ _ => rfl)) rfl) (pss_cons (ps_fld (pv 0) (pe_ix ix_tup (pv 1) pe_int (fun _ _ => rfl)) rfl) (pss_one (ps_fld (pv 0) (pe_ix ix_tup (pv 1) pe_int (fun _ _ => rfl)) rfl))))), ?_⟩
    have el : (ts' ++ [t]).map V.ref = ts'.map V.ref ++ [V.ref t] := List.map_append
    rw [el] at hu
    refine ⟨_, rfl, x, C, dx, _, _, rfl, hx, T.cl, T.nU, sh_earlier, _, rfl, u0, _, _, _, rfl, rfl, SqL.of hu, atI_last _ _, ?_⟩
    refine ⟨_, rfl, x, C, dx, _, _, rfl, hx, T.cl, T.nU, sh_earlier, _, rfl, _, rfl, u0, _, rfl, SqL.of hu, fun r hr' => ?_⟩
    have ecut : cutV (ts'.map V.ref ++ [V.ref t]) none (some (-1)) = ts'.map V.ref := by rw [cut_last, List.dropLast_concat]
    have ecut' : cutV (ts'.map V.ref ++ [V.ref t]) none (some (-(1 : Int))) = ts'.map V.ref := ecut
    rw [ecut']
    have g1 : Go Tt none H (upd H r (.lst (ts'.map V.ref))) := (Go.refl hT).new hr'
    have hx1 := g1.of hx fun _ => nofun
    have ht1 := g1.of ht fun _ => nofun
    have tx : t ≠ x := ne_of ht hx nofun
    refine ⟨_, rfl, x, C, dx, _, rfl, hx1, T.cl, T.nU, small5, ?_⟩
    rw [put_earlier]
    refine ⟨_, rfl, t, _, _, _, rfl, rfl, SqT.of (by rw [upd_ne tx]; exact ht1), atI_nat (j := 0) rfl, _, rfl, x, C, dx, _, rfl, upd_same, T.cl, T.nE, small5, ?_⟩
    rw [put_each, upd_upd]
    refine ⟨_, rfl, t, _, _, _, rfl, rfl, SqT.of (by rw [upd_ne tx]; exact ht1), atI_nat (j := 1) rfl, _, rfl, x, C, dx, _, rfl, upd_same, T.cl, T.nD, small5, ?_⟩
    rw [put_differ, upd_upd]
    refine ⟨_, rfl, t, _, _, _, rfl, rfl, SqT.of (by rw [upd_ne tx]; exact ht1), atI_nat (j := 2) rfl, _, rfl, x, C, dx, _, rfl, upd_same, T.cl, T.nW, small5, ?_⟩
    rw [put_widths, upd_upd]
    have gx : Go Tt (some x) H (upd (upd H r (.lst (ts'.map V.ref))) x (.ins C dx (shF true y.1 y.2.1 w1 r))) := g1.weak.set hx1 (fun _ => nofun) (fun _ => nofun) (.inr rfl)
    have sq := gx.seqs hx
    have xr : r ≠ x := fun z => by rw [z, hx] at hr'; cases hr'
    exact fin _ ⟨dx, w1, r, ts', upd_same, (sq _ _).2 hw1, by rw [upd_ne xr, upd_same], EarlierAt.keep ht' sq⟩ gx
end
end Mush

namespace Mush
open PySem PySem.Spec PyProof.Rows L2 Kh366
/-! ### the calls: one promise for all -/
def spC (C : Addr) (T : Tb) (p : Int) : Sp := fun vs H Q _ => ∃ (x g : Addr) (gl : List Int) (c : Call) (s : Option Abs), vs = [.ref x, .ref g] ∧ Req p gl c ∧ H g = some (.lst (gl.map V.int)) ∧ ShedIs C H x s ∧ (p ≠ 0 → s ≠ none) ∧ T.Ok H ∧
  ∀ (H' : Hp) (q : Addr), Go T (some x) H H' → ShedIs C H' x (doing s c).1 → H q = none → H' q = some (.lst ((ansL (doing s c).2).map V.int)) → Q (.ref q) H'
theorem spC_len {C : Addr} {T : Tb} {p : Int} : ∀ vs H Q E, spC C T p vs H Q E → vs.length = (["shed", "given"] : List Str).length := fun vs H Q E h => by
  obtain ⟨x, g, gl, c, s, rfl, _⟩ := h
  rfl
theorem some_of {s : Option Abs} (h : s ≠ none) : ∃ a, s = some a := by
  cases s with
  | none => exact absurd rfl h
  | some a => exact ⟨a, rfl⟩
theorem ShedIs.at_ {C : Addr} {H : Hp} {x : Addr} {s : Option Abs} (h : ShedIs C H x s) : ∃ b a, ShedAt C H x b a := by
  cases s with
  | none => exact ⟨_, _, h⟩
  | some a => exact ⟨_, _, h.1⟩
theorem ShedIs.x {C : Addr} {H : Hp} {x : Addr} {s : Option Abs} (h : ShedIs C H x s) : ∃ o, H x = some o := by
  obtain ⟨b, a, dx, w, u, ts, e, _⟩ := h.at_
  exact ⟨_, e⟩
theorem ShedIs.new {T : Tb} {C : Addr} {H : Hp} {x : Addr} {s : Option Abs} (h : ShedIs C H x s) (hT : T.Ok H) {q : Addr} {o : HO} (hq : H q = none) : ShedIs C (upd H q o) x s := h.go ((Go.refl (x := none) hT).new hq)
/-- the list that is answered is laid -/
theorem answer_new {T : Tb} {C : Addr} {H H1 : Hp} {x : Addr} {s : Option Abs} {r : Option Abs × Ans} {Q : VK} {q : Addr} (fin : ∀ (H' : Hp) (q : Addr), Go T (some x) H H' → ShedIs C H' x r.1 → H q = none → H' q = some (.lst ((ansL r.2).map V.int)) → Q (.ref q) H')
    (g : Go T (some x) H H1) (sh : ShedIs C H1 x r.1) (hq : H1 q = none) {L : List V} (e : L = (ansL r.2).map V.int) : Q (.ref q) (upd H1 q (.lst L)) := by
  have xq : some x ≠ some q := fun z => by
    obtain ⟨o, h⟩ := sh.x
    rw [Option.some.inj z, hq] at h
    cases h
  exact fin _ q (g.new hq) (sh.new g.ok' hq) (g.free xq hq) (by rw [upd_same, e])
theorem bE (k : Nat) : (decide ((1 : Int) ≤ (k : Int)) && decide ((k : Int) ≤ 6)) = okEach k := by
  unfold okEach EACH
  rw [show decide ((1 : Int) ≤ (k : Int)) = decide (1 ≤ k) from decide_eq_decide.mpr (by omega), show decide ((k : Int) ≤ 6) = decide (k ≤ 6) from decide_eq_decide.mpr (by omega)]
theorem bW (k : Nat) : (decide ((1 : Int) ≤ (k : Int)) && decide ((k : Int) ≤ 100)) = okWide k := by
  unfold okWide WIDE
  rw [show decide ((1 : Int) ≤ (k : Int)) = decide (1 ≤ k) from decide_eq_decide.mpr (by omega), show decide ((k : Int) ≤ 100) = decide (k ≤ 100) from decide_eq_decide.mpr (by omega)]
theorem bD (k : Nat) : (decide ((0 : Int) ≤ (k : Int)) && decide ((k : Int) ≤ 50)) = !decide (DIFFER < k) := by
  unfold DIFFER
  rw [decide_eq_true (by omega : (0 : Int) ≤ (k : Int)), Bool.true_and]
  by_cases h : 50 < k
  · rw [decide_eq_true h, decide_eq_false (by omega)]; rfl
  · rw [decide_eq_false h, decide_eq_true (by omega)]; rfl
theorem okE_of {k : Nat} (h : okEach k = true) : 1 ≤ k ∧ k ≤ 6 := by
  unfold okEach EACH at h
  simpa using h
theorem okW_of {k : Nat} (h : okWide k = true) : 1 ≤ k ∧ k ≤ 100 := by
  unfold okWide WIDE at h
  simpa using h
theorem good_keep {a b : Abs} (h : Good a) (e1 : 1 ≤ b.each) (e6 : b.each ≤ 6) (d : b.differ ≤ 50) (c : b.caps.length ≤ 24) (cw : ∀ w ∈ b.caps, 1 ≤ w ∧ w ≤ 100) : Good (keep a b) := by
  refine ⟨e1, e6, d, c, cw, ?_, fun x hx => ?_⟩
  · show (((a.each, a.differ, a.caps) :: a.undo).take BACK).length ≤ 10
    rw [List.length_take]
    exact Nat.min_le_left _ _
  · have hx' : x ∈ ((a.each, a.differ, a.caps) :: a.undo).take BACK := hx
    rcases List.mem_cons.mp (List.mem_of_mem_take hx') with rfl | hx
    · exact ⟨⟨h.e1, h.e6⟩, h.d50, h.c24, h.cw⟩
    · exact h.u x hx

section
variable {P : Program} {w : World} {K : PySem.W.Frag} {mg : Str → Option Value} {base : Heap} {C : Addr} {Tt : Tb}

theorem scIe : FnScope ["each"] ["each"] (defScope s_is_each) := ⟨rfl, rfl, rfl, by decide +kernel, rfl, by decide +kernel, by decide +kernel⟩
theorem ok_is_each {f : Addr} {fd : FuncData} (F : Fun K "is_each" "is_each" s_is_each f fd) (T : Txt K mg C) : FnOk P w K mg base CX0 1 f fd ["each"] (spBt 1 6) := by
  refine F.ok scIe (fun vs H Q E h => ?_) (fun cdv A outer s H vs Q E hr h => ?_)
  · obtain ⟨i, rfl, _⟩ := h
    rfl
  · obtain ⟨i, rfl, h⟩ := h
    refine ⟨_, pss_one (ps_ret (pe_chain op_le op_le pe_int (pv 0) (pe_gi rfl T.mEach))), ?_⟩
    exact ⟨_, rfl, _, _, rfl, rfl, _, rfl, by
      have := bt_end (Q := fun v => Q v H) h
      cases e : decide ((1 : Int) ≤ i) with
      | true => rw [e] at this; exact iteT ⟨_, _, rfl, rfl, (by simpa using this)⟩
      | false => rw [e] at this; exact iteF (by simpa using this)⟩
theorem scId : FnScope ["differ"] ["differ"] (defScope s_is_differ) := ⟨rfl, rfl, rfl, by decide +kernel, rfl, by decide +kernel, by decide +kernel⟩
theorem ok_is_differ {f : Addr} {fd : FuncData} (F : Fun K "is_differ" "is_differ" s_is_differ f fd) (T : Txt K mg C) : FnOk P w K mg base CX0 1 f fd ["differ"] (spBt 0 50) := by
  refine F.ok scId (fun vs H Q E h => ?_) (fun cdv A outer s H vs Q E hr h => ?_)
  · obtain ⟨i, rfl, _⟩ := h
    rfl
  · obtain ⟨i, rfl, h⟩ := h
    refine ⟨_, pss_one (ps_ret (pe_chain op_le op_le pe_int (pv 0) (pe_gi rfl T.mDiff))), ?_⟩
    exact ⟨_, rfl, _, _, rfl, rfl, _, rfl, by
      have := bt_end (Q := fun v => Q v H) h
      cases e : decide ((0 : Int) ≤ i) with
      | true => rw [e] at this; exact iteT ⟨_, _, rfl, rfl, (by simpa using this)⟩
      | false => rw [e] at this; exact iteF (by simpa using this)⟩
def spIsM (C : Addr) : Sp := fun vs H Q _ => ∃ (x : Addr) (a : Abs) (i : Nat), vs = [.ref x, .int (i : Int)] ∧ ShedAt C H x true a ∧ Q (.bl (decide (i < a.caps.length))) H
theorem scIm : FnScope ["shed", "i"] ["shed", "i"] (defScope s_is_mushroom) := ⟨rfl, rfl, rfl, by decide +kernel, rfl, by decide +kernel, by decide +kernel⟩
theorem ok_is_mushroom {f : Addr} {fd : FuncData} (F : Fun K "is_mushroom" "is_mushroom" s_is_mushroom f fd) (T : Txt K mg C) : FnOk P w K mg base CX0 1 f fd ["shed", "i"] (spIsM C) := by
  refine F.ok scIm (fun vs H Q E h => ?_) (fun cdv A outer s H vs Q E hr h => ?_)
  · obtain ⟨x, a, i, rfl, _⟩ := h
    rfl
  · obtain ⟨x, a, i, rfl, ⟨dx, w0, u0, ts, hx, hw, hu, hts⟩, h⟩ := h
    refine ⟨_, pss_one (ps_ret (pe_chain op_le op_lt pe_int (pv 1) (pe_callB call_len_seq rfl T.len PySem.boot_len (pa_cons (pe_fld (pv 0) rfl) pa_nil)))), ?_⟩
    refine ⟨_, rfl, _, _, rfl, rfl, _, rfl, ?_⟩
    rw [show decide ((0 : Int) ≤ (i : Int)) = true from decide_eq_true (by omega)]
    refine iteT ⟨_, rfl, x, C, dx, _, _, rfl, hx, T.cl, T.nW, sh_widths, w0, _, rfl, .inl (SqL.of hw), _, _, rfl, rfl, ?_⟩
    show Q (.bl (decide ((i : Int) < ((nv a.caps).length : Int)))) H
    rw [nv_length, show decide ((i : Int) < ((a.caps.length : Nat) : Int)) = decide (i < a.caps.length) from decide_eq_decide.mpr (by omega)]
    exact h

/-! ### begin -/
theorem scCb : FnScope ["shed", "given", "each", "differ"] ["shed", "given"] (defScope s_call_begin) := ⟨rfl, rfl, rfl, by decide +kernel, rfl, by decide +kernel, by decide +kernel⟩
theorem ok_call_begin {f fE fD fS : Addr} {fd fdE fdD fdS : FuncData} (F : Fun K "call_begin" "call_begin" s_call_begin f fd) (T : Txt K mg C) (DE : Dn K mg "is_each" s_is_each ["each"] fE fdE) (DD : Dn K mg "is_differ" s_is_differ ["differ"] fD fdD)
    (FS : Fun K "set_up" "Shed.set_up" s_Shed_set_up fS fdS) (bS : Binds K fdS ["self", "each", "differ"] []) (mS : Meth K C "set_up" fS) : FnOk P w K mg base CX0 2 f fd ["shed", "given"] (spC C Tt 0) := by
  have GE : FnOk P w K mg base CX0 1 fE fdE ["each"] (spBt 1 6) := ok_is_each DE.fn T
  have GD : FnOk P w K mg base CX0 1 fD fdD ["differ"] (spBt 0 50) := ok_is_differ DD.fn T
  have GS : FnOk P w K mg base CX0 1 fS fdS ["self", "each", "differ"] (spSetUp C Tt) := ok_set_up FS T
  refine F.ok scCb spC_len (fun cdv A outer s H vs Q E hr h => ?_)
  obtain ⟨x, g, gl, c, st, rfl, hreq, hg, hsh, _, hT, fin⟩ := h
  cases hreq with
  | begin_ k d =>
    refine ⟨_, pss_cons (ps_set (i := 2) scCb.nd rfl (Or.inl rfl) (pe_ix ix_list (pv 1) pe_int (fun _ _ => rfl))) (pss_cons (ps_set (i := 3) scCb.nd rfl (Or.inl rfl) (pe_ix ix_list (pv 1) pe_int (fun _ _ => rfl)))
      (pss_cons (ps_if (PW.pt (pw_or (pt_not (pt_val (pe_call GE hr rfl DE.mg_ DE.fn.kp DE.bd .nil pass0 (pa_cons (pv 2) pa_nil)))) (pw_or1 (pt_not (pt_val (pe_call GD hr rfl DD.mg_ DD.fn.kp DD.bd .nil pass0 (pa_cons (pv 3) pa_nil)))))))
        (pss_one (ps_ret (pe_lst (pa_cons (pe_gi rfl T.cNot) pa_nil)))) pss_nil)
      (pss_cons (ps_expr (pe_meth (pv 0) T.cl mS GS hr bS .nil pass0 (pa_cons (pv 2) (pa_cons (pv 3) pa_nil)))) (pss_one (ps_ret (pe_lst (pa_cons pe_int pa_nil))))))), ?_⟩
    refine ⟨_, rfl, g, _, _, _, rfl, rfl, SqL.of hg, atI_nat (j := 0) rfl, _, rfl, g, _, _, _, rfl, rfl, SqL.of hg, atI_nat (j := 1) rfl, ?_⟩
    have ed : doing st (.begin_ k d) = if okEach k = false ∨ DIFFER < d then (st, say (-22)) else (some (begun k d), say 0) := rfl
    have no : okEach k = false ∨ DIFFER < d → ∀ q, H q = none → Q (.ref q) (upd H q (.lst [.int (-22)])) := fun hbad q hq => by
      rw [ed, if_pos hbad] at fin
      exact answer_new (s := st) (r := (st, say (-22))) fin (Go.refl hT) hsh hq rfl
    refine ⟨_, rfl, _, rfl, _, rfl, ?_⟩
    rw [bE]
    cases hk : okEach k with
    | false => exact iteT (iteT ⟨(by show 1 ≤ sizeLine; decide), fun q hq => no (.inl hk) q hq⟩)
    | true =>
      refine iteF ⟨_, rfl, _, rfl, _, rfl, ?_⟩
      rw [bD]
      by_cases hd : DIFFER < d
      · rw [decide_eq_true hd]
        exact iteT ⟨(by show 1 ≤ sizeLine; decide), fun q hq => no (.inr hd) q hq⟩
      · rw [decide_eq_false hd]
        refine iteF ?_
        obtain ⟨b, a, dx, w0, u0, ts, hx, hw, hu, hts⟩ := hsh.at_
        refine ⟨_, rfl, x, dx, _, rfl, hx, sh_no (by decide +kernel), _, rfl, _, rfl, x, k, d, rfl, hsh.at_, hT, fun H1 sh1 g1 => ?_⟩
        refine ⟨(by show 1 ≤ sizeLine; decide), fun q hq => ?_⟩
        rw [ed, if_neg (by rw [hk]; exact fun z => z.elim (fun z => Bool.noConfusion z) hd)] at fin
        have he := okE_of hk
        have hd' : d ≤ 50 := by unfold DIFFER at hd; omega
        exact answer_new (s := st) (r := (some (begun k d), say 0)) fin g1 ⟨sh1, ⟨he.1, he.2, hd', Nat.zero_le _, fun w hw => (by cases hw), Nat.zero_le _, fun y hy => (by cases hy)⟩⟩ hq rfl

/-! ### cap -/
theorem scCc : FnScope ["shed", "given", "width", "number"] ["shed", "given"] (defScope s_call_cap) := ⟨rfl, rfl, rfl, by decide +kernel, rfl, by decide +kernel, by decide +kernel⟩
theorem ok_call_cap {f fW fS : Addr} {fd fdW fdS : FuncData} (F : Fun K "call_cap" "call_cap" s_call_cap f fd) (T : Txt K mg C) (DW : Dn K mg "is_width" s_is_width ["width"] fW fdW)
    (FS : Fun K "change" "Shed.change" s_Shed_change fS fdS) (bS : Binds K fdS ["self", "each", "differ", "widths"] []) (mS : Meth K C "change" fS) : FnOk P w K mg base CX0 2 f fd ["shed", "given"] (spC C Tt 1) := by
  have GW : FnOk P w K mg base CX0 1 fW fdW ["width"] (spBt 1 100) := ok_is_width DW.fn T
  have GS : FnOk P w K mg base CX0 1 fS fdS ["self", "each", "differ", "widths"] (spChange C Tt) := ok_change FS T
  refine F.ok scCc spC_len (fun cdv A outer s H vs Q E hr h => ?_)
  obtain ⟨x, g, gl, c, st, rfl, hreq, hg, hsh, hs, hT, fin⟩ := h
  obtain ⟨a, rfl⟩ := some_of (hs (by decide))
  cases hreq with
  | cap wd =>
    refine ⟨_, pss_cons (ps_set (i := 2) scCc.nd rfl (Or.inl rfl) (pe_ix ix_list (pv 1) pe_int (fun _ _ => rfl)))
      (pss_cons (ps_if (pt_not (pt_val (pe_call GW hr rfl DW.mg_ DW.fn.kp DW.bd .nil pass0 (pa_cons (pv 2) pa_nil)))) (pss_one (ps_ret (pe_lst (pa_cons (pe_gi rfl T.cNot) pa_nil)))) pss_nil)
      (pss_cons (ps_if (pt_cmpR op_ge (pe_callB call_len_seq rfl T.len PySem.boot_len (pa_cons (pe_fld (pv 0) rfl) pa_nil)) (pe_gi rfl T.mMush) (nomark _)) (pss_one (ps_ret (pe_lst (pa_cons (pe_gi rfl T.cRoom) pa_nil)))) pss_nil)
      (pss_cons (ps_set (i := 3) scCc.nd rfl (Or.inl rfl) (pe_callB call_len_seq rfl T.len PySem.boot_len (pa_cons (pe_fld (pv 0) rfl) pa_nil)))
      (pss_cons (ps_expr (pe_meth (pv 0) T.cl mS GS hr bS .nil pass0 (pa_cons (pe_fld (pv 0) rfl) (pa_cons (pe_fld (pv 0) rfl) (pa_cons (pe_op op_cat (pe_fld (pv 0) rfl) (pe_lst (pa_cons (pv 2) pa_nil))) pa_nil)))))
      (pss_one (ps_ret (pe_lst (pa_cons (pv 3) pa_nil)))))))), ?_⟩
    refine ⟨_, rfl, g, _, _, _, rfl, rfl, SqL.of hg, atI_nat (j := 0) rfl, ?_⟩
    have ed : doing (some a) (.cap wd) = if okWide wd = false then (some a, say (-22)) else if CAPS ≤ a.caps.length then (some a, say (-28)) else (some (keep a { a with caps := a.caps ++ [wd] }), say a.caps.length) := rfl
    refine ⟨_, rfl, _, rfl, _, rfl, ?_⟩
    rw [bW]
    cases hk : okWide wd with
    | false =>
      rw [ed, if_pos hk] at fin
      exact iteT ⟨(by show 1 ≤ sizeLine; decide), fun q hq => answer_new (s := some a) (r := (some a, say (-22))) fin (Go.refl hT) hsh hq rfl⟩
    | true =>
      rw [ed, if_neg (by rw [hk]; exact Bool.noConfusion)] at fin
      refine iteF ?_
      obtain ⟨⟨dx, w0, u0, ts, hx, hw, hu, hts⟩, hG⟩ := id hsh
      refine ⟨_, rfl, x, C, dx, _, _, rfl, hx, T.cl, T.nW, sh_widths, w0, _, rfl, .inl (SqL.of hw), _, _, rfl, rfl, _, rfl, ?_⟩
      rw [nv_length, show decide ((24 : Int) ≤ ((a.caps.length : Nat) : Int)) = decide (CAPS ≤ a.caps.length) from decide_eq_decide.mpr (by unfold CAPS; omega)]
      by_cases hc : CAPS ≤ a.caps.length
      · rw [decide_eq_true hc]
        rw [if_pos hc] at fin
        exact iteT ⟨(by show 1 ≤ sizeLine; decide), fun q hq => answer_new (s := some a) (r := (some a, say (-28))) fin (Go.refl hT) hsh hq rfl⟩
      · rw [decide_eq_false hc]
        rw [if_neg hc] at fin
        have hc' : a.caps.length < 24 := by unfold CAPS at hc; omega
        refine iteF ⟨_, rfl, x, C, dx, _, _, rfl, hx, T.cl, T.nW, sh_widths, w0, _, rfl, .inl (SqL.of hw), ?_⟩
        refine ⟨_, rfl, x, dx, _, rfl, hx, sh_no (by decide +kernel), _, rfl, x, C, dx, _, _, rfl, hx, T.cl, T.nE, sh_each, _, rfl, x, C, dx, _, _, rfl, hx, T.cl, T.nD, sh_differ, _, rfl, x, C, dx, _, _, rfl, hx, T.cl, T.nW, sh_widths, _, rfl, (by show 1 ≤ sizeLine; decide), fun q1 hq1 => ?_⟩
        have g1 : Go Tt none H (upd H q1 (.lst [.int (wd : Int)])) := (Go.refl hT).new hq1
        refine ⟨w0, q1, _, _, rfl, rfl, g1.lst hw, upd_same, (by rw [nv_length, sizeLine_eq]; simp only [List.length_cons, List.length_nil]; omega), fun q2 hq2 => ?_⟩
        have g2 := g1.new (o := .lst (nv a.caps ++ [.int (wd : Int)])) hq2
        have e2 : upd (upd H q1 (.lst [.int (wd : Int)])) q2 (.lst (nv a.caps ++ [.int (wd : Int)])) q2 = some (.lst (nv (a.caps ++ [wd]))) := by rw [upd_same, nv_append]; rfl
        refine ⟨x, q2, a, a.each, a.differ, a.caps ++ [wd], rfl, ShedAt.go hsh.1 g2, hG.u10, e2, g2.ok', fun H3 sh3 g3 => ?_⟩
        refine ⟨_, rfl, (by show 1 ≤ sizeLine; decide), fun q hq => ?_⟩
        have hw2 := okW_of hk
        refine answer_new (s := some a) (r := (some (keep a { a with caps := a.caps ++ [wd] }), say a.caps.length)) fin (g2.weak.trans g3) ⟨sh3, good_keep hG hG.e1 hG.e6 hG.d50 (by show (a.caps ++ [wd]).length ≤ 24; rw [List.length_append]; simp only [List.length_cons, List.length_nil]; omega) (fun y hy => ?_)⟩ hq (by show [V.int ((nv a.caps).length : Int)] = _; rw [nv_length]; rfl)
        rcases List.mem_append.mp hy with hy | hy
        · exact hG.cw y hy
        · rw [List.mem_singleton.mp hy]
          exact hw2
end
end Mush

namespace Mush
open PySem PySem.Spec PyProof.Rows L2 Kh366
theorem dec_nn (a b : Nat) : decide (V.int (a : Int) = V.int (b : Int)) = decide (a = b) := by
  rw [dec_int]
  by_cases h : a = b
  · subst h; simp
  · rw [decide_eq_false h, beq_eq_false_iff_ne.mpr (by omega)]
theorem mem_set {l : List Nat} {i w : Nat} {p : Nat → Prop} (h : ∀ y ∈ l, p y) (hw : p w) : ∀ y ∈ l.set i w, p y := fun y hy => by
  rcases List.mem_or_eq_of_mem_set hy with z | z
  · exact h y z
  · rw [z]; exact hw
theorem erase_cut (l : List Nat) (i : Nat) : l.eraseIdx i = l.take i ++ l.drop (i + 1) := List.eraseIdx_eq_take_drop_succ ..
theorem set_cut {l : List Nat} {i w : Nat} (h : i < l.length) : l.set i w = (l.take i ++ [w]) ++ l.drop (i + 1) := by
  rw [List.set_eq_take_append_cons_drop, if_pos h, List.append_assoc]
  rfl
section
variable {P : Program} {w : World} {K : PySem.W.Frag} {mg : Str → Option Value} {base : Heap} {C : Addr} {Tt : Tb}

/-! ### out -/
theorem scCo : FnScope ["shed", "given", "i"] ["shed", "given"] (defScope s_call_out) := ⟨rfl, rfl, rfl, by decide +kernel, rfl, by decide +kernel, by decide +kernel⟩
theorem ok_call_out {f fM fS : Addr} {fd fdM fdS : FuncData} (F : Fun K "call_out" "call_out" s_call_out f fd) (T : Txt K mg C) (DM : Dn K mg "is_mushroom" s_is_mushroom ["shed", "i"] fM fdM)
    (FS : Fun K "change" "Shed.change" s_Shed_change fS fdS) (bS : Binds K fdS ["self", "each", "differ", "widths"] []) (mS : Meth K C "change" fS) : FnOk P w K mg base CX0 2 f fd ["shed", "given"] (spC C Tt 2) := by
  have GM : FnOk P w K mg base CX0 1 fM fdM ["shed", "i"] (spIsM C) := ok_is_mushroom DM.fn T
  have GS : FnOk P w K mg base CX0 1 fS fdS ["self", "each", "differ", "widths"] (spChange C Tt) := ok_change FS T
  refine F.ok scCo spC_len (fun cdv A outer s H vs Q E hr h => ?_)
  obtain ⟨x, g, gl, c, st, rfl, hreq, hg, hsh, hs, hT, fin⟩ := h
  obtain ⟨a, rfl⟩ := some_of (hs (by decide))
  cases hreq with
  | out i =>
    refine ⟨_, pss_cons (ps_set (i := 2) scCo.nd rfl (Or.inl rfl) (pe_ix ix_list (pv 1) pe_int (fun _ _ => rfl)))
      (pss_cons (ps_if (pt_not (pt_val (pe_call GM hr rfl DM.mg_ DM.fn.kp DM.bd .nil pass0 (pa_cons (pv 0) (pa_cons (pv 2) pa_nil))))) (pss_one (ps_ret (pe_lst (pa_cons (pe_gi rfl T.cNoM) pa_nil)))) pss_nil)
      (pss_cons (ps_expr (pe_meth (pv 0) T.cl mS GS hr bS .nil pass0 (pa_cons (pe_fld (pv 0) rfl) (pa_cons (pe_fld (pv 0) rfl) (pa_cons (pe_op op_cat (pe_slice sl_list (pe_fld (pv 0) rfl) po_none (po_some (pv 2))) (pe_slice sl_list (pe_fld (pv 0) rfl) (po_some (pe_op op_add (pv 2) pe_int)) po_none)) pa_nil)))))
      (pss_one (ps_ret (pe_lst (pa_cons (pe_callB call_len_seq rfl T.len PySem.boot_len (pa_cons (pe_fld (pv 0) rfl) pa_nil)) pa_nil)))))), ?_⟩
    refine ⟨_, rfl, g, _, _, _, rfl, rfl, SqL.of hg, atI_nat (j := 0) rfl, ?_⟩
    have ed : doing (some a) (.out i) = if a.caps.length ≤ i then (some a, say (-2)) else (some (keep a (without a i)), say (a.caps.length - 1 : Nat)) := rfl
    refine ⟨_, rfl, _, rfl, x, a, i, rfl, hsh.1, _, rfl, ?_⟩
    by_cases hi : i < a.caps.length
    · rw [decide_eq_true hi]
      rw [ed, if_neg (by omega)] at fin
      refine iteF ?_
      obtain ⟨⟨dx, w0, u0, ts, hx, hw, hu, hts⟩, hG⟩ := id hsh
      refine ⟨_, rfl, x, dx, _, rfl, hx, sh_no (by decide +kernel), _, rfl, x, C, dx, _, _, rfl, hx, T.cl, T.nE, sh_each, _, rfl, x, C, dx, _, _, rfl, hx, T.cl, T.nD, sh_differ, _, rfl, x, C, dx, _, _, rfl, hx, T.cl, T.nW, sh_widths, _, rfl, _, rfl, w0, _, rfl, SqL.of hw, fun q1 hq1 => ?_⟩
      rw [cut_b (by rw [nv_length]; omega), nv_take]
      have g1 : Go Tt none H (upd H q1 (.lst (nv (a.caps.take i)))) := (Go.refl hT).new hq1
      refine ⟨_, rfl, x, C, dx, _, _, rfl, g1.of hx fun _ => nofun, T.cl, T.nW, sh_widths, _, rfl, _, _, rfl, rfl, _, rfl, w0, _, rfl, SqL.of (g1.lst hw), fun q2 hq2 => ?_⟩
      have ec : cutV (nv a.caps) (some ((i : Int) + 1)) none = nv (a.caps.drop (i + 1)) := by
        rw [show (i : Int) + 1 = ((i + 1 : Nat) : Int) by omega, cut_a, nv_drop]
      rw [ec]
      have g2 := g1.new (o := .lst (nv (a.caps.drop (i + 1)))) hq2
      have q12 : q1 ≠ q2 := fun z => by rw [← z, upd_same] at hq2; cases hq2
      refine ⟨q1, q2, _, _, rfl, rfl, (by rw [upd_ne q12, upd_same]), upd_same, (by rw [nv_length, nv_length, List.length_take, List.length_drop, sizeLine_eq]; have := hG.c24; omega), fun q3 hq3 => ?_⟩
      have g3 := g2.new (o := .lst (nv (a.caps.take i) ++ nv (a.caps.drop (i + 1)))) hq3
      refine ⟨x, q3, a, a.each, a.differ, a.caps.eraseIdx i, rfl, ShedAt.go hsh.1 g3, hG.u10, (by rw [upd_same, erase_cut, nv_append]), g3.ok', fun H4 sh4 g4 => ?_⟩
      obtain ⟨dx4, w4, u4, ts4, hx4, hw4, hu4, hts4⟩ := id sh4
      refine ⟨_, rfl, x, C, dx4, _, _, rfl, hx4, T.cl, T.nW, sh_widths, w4, _, rfl, .inl (SqL.of hw4), (by show 1 ≤ sizeLine; decide), fun q hq => ?_⟩
      have hl : (a.caps.eraseIdx i).length = a.caps.length - 1 := by rw [List.length_eraseIdx, if_pos hi]
      refine answer_new (s := some a) (r := (some (keep a (without a i)), say (a.caps.length - 1 : Nat))) fin (g3.weak.trans g4) ⟨sh4, good_keep hG hG.e1 hG.e6 hG.d50 (by show (a.caps.eraseIdx i).length ≤ 24; have := hG.c24; omega) (fun y hy => hG.cw y (List.mem_of_mem_eraseIdx hy))⟩ hq ?_
      show [V.int ((nv (a.caps.eraseIdx i)).length : Int)] = _
      rw [nv_length, hl]
      rfl
    · rw [decide_eq_false hi]
      rw [ed, if_pos (by omega)] at fin
      exact iteT ⟨(by show 1 ≤ sizeLine; decide), fun q hq => answer_new (s := some a) (r := (some a, say (-2))) fin (Go.refl hT) hsh hq rfl⟩

/-! ### width -/
theorem scCw : FnScope ["shed", "given", "i", "width", "was"] ["shed", "given"] (defScope s_call_width) := ⟨rfl, rfl, rfl, by decide +kernel, rfl, by decide +kernel, by decide +kernel⟩
theorem ok_call_width {f fM fW fS : Addr} {fd fdM fdW fdS : FuncData} (F : Fun K "call_width" "call_width" s_call_width f fd) (T : Txt K mg C) (DM : Dn K mg "is_mushroom" s_is_mushroom ["shed", "i"] fM fdM) (DW : Dn K mg "is_width" s_is_width ["width"] fW fdW)
    (FS : Fun K "change" "Shed.change" s_Shed_change fS fdS) (bS : Binds K fdS ["self", "each", "differ", "widths"] []) (mS : Meth K C "change" fS) : FnOk P w K mg base CX0 2 f fd ["shed", "given"] (spC C Tt 3) := by
  have GM : FnOk P w K mg base CX0 1 fM fdM ["shed", "i"] (spIsM C) := ok_is_mushroom DM.fn T
  have GW : FnOk P w K mg base CX0 1 fW fdW ["width"] (spBt 1 100) := ok_is_width DW.fn T
  have GS : FnOk P w K mg base CX0 1 fS fdS ["self", "each", "differ", "widths"] (spChange C Tt) := ok_change FS T
  refine F.ok scCw spC_len (fun cdv A outer s H vs Q E hr h => ?_)
  obtain ⟨x, g, gl, c, st, rfl, hreq, hg, hsh, hs, hT, fin⟩ := h
  obtain ⟨a, rfl⟩ := some_of (hs (by decide))
  cases hreq with
  | width i wd =>
    refine ⟨_, pss_cons (ps_set (i := 2) scCw.nd rfl (Or.inl rfl) (pe_ix ix_list (pv 1) pe_int (fun _ _ => rfl))) (pss_cons (ps_set (i := 3) scCw.nd rfl (Or.inl rfl) (pe_ix ix_list (pv 1) pe_int (fun _ _ => rfl)))
      (pss_cons (ps_if (pt_not (pt_val (pe_call GM hr rfl DM.mg_ DM.fn.kp DM.bd .nil pass0 (pa_cons (pv 0) (pa_cons (pv 2) pa_nil))))) (pss_one (ps_ret (pe_lst (pa_cons (pe_gi rfl T.cNoM) pa_nil)))) pss_nil)
      (pss_cons (ps_if (pt_not (pt_val (pe_call GW hr rfl DW.mg_ DW.fn.kp DW.bd .nil pass0 (pa_cons (pv 3) pa_nil)))) (pss_one (ps_ret (pe_lst (pa_cons (pe_gi rfl T.cNot) pa_nil)))) pss_nil)
      (pss_cons (ps_set (i := 4) scCw.nd rfl (Or.inl rfl) (pe_ix ix_list (pe_fld (pv 0) rfl) (pv 2) (fun _ _ => rfl)))
      (pss_cons (ps_expr (pe_meth (pv 0) T.cl mS GS hr bS .nil pass0 (pa_cons (pe_fld (pv 0) rfl) (pa_cons (pe_fld (pv 0) rfl) (pa_cons (pe_op op_cat (pe_op op_cat (pe_slice sl_list (pe_fld (pv 0) rfl) po_none (po_some (pv 2))) (pe_lst (pa_cons (pv 3) pa_nil))) (pe_slice sl_list (pe_fld (pv 0) rfl) (po_some (pe_op op_add (pv 2) pe_int)) po_none)) pa_nil)))))
      (pss_one (ps_ret (pe_lst (pa_cons (pv 4) pa_nil))))))))), ?_⟩
    refine ⟨_, rfl, g, _, _, _, rfl, rfl, SqL.of hg, atI_nat (j := 0) rfl, _, rfl, g, _, _, _, rfl, rfl, SqL.of hg, atI_nat (j := 1) rfl, ?_⟩
    have ed : doing (some a) (.width i wd) = if a.caps.length ≤ i then (some a, say (-2)) else if okWide wd = false then (some a, say (-22)) else (some (keep a { a with caps := a.caps.set i wd }), say (a.caps.getD i 0)) := rfl
    refine ⟨_, rfl, _, rfl, x, a, i, rfl, hsh.1, _, rfl, ?_⟩
    by_cases hi : i < a.caps.length
    · rw [decide_eq_true hi]
      rw [ed, if_neg (by omega)] at fin
      refine iteF ?_
      refine ⟨_, rfl, _, rfl, _, rfl, ?_⟩
      rw [bW]
      cases hk : okWide wd with
      | false =>
        rw [if_pos hk] at fin
        exact iteT ⟨(by show 1 ≤ sizeLine; decide), fun q hq => answer_new (s := some a) (r := (some a, say (-22))) fin (Go.refl hT) hsh hq rfl⟩
      | true =>
        rw [if_neg (by rw [hk]; exact Bool.noConfusion)] at fin
        refine iteF ?_
        obtain ⟨⟨dx, w0, u0, ts, hx, hw, hu, hts⟩, hG⟩ := id hsh
        obtain ⟨wi, hwi⟩ : ∃ wi, a.caps[i]? = some wi := ⟨_, List.getElem?_eq_getElem hi⟩
        refine ⟨_, rfl, x, C, dx, _, _, rfl, hx, T.cl, T.nW, sh_widths, _, rfl, w0, _, _, _, rfl, rfl, SqL.of hw, atI_at rfl hwi, ?_⟩
        refine ⟨_, rfl, x, dx, _, rfl, hx, sh_no (by decide +kernel), _, rfl, x, C, dx, _, _, rfl, hx, T.cl, T.nE, sh_each, _, rfl, x, C, dx, _, _, rfl, hx, T.cl, T.nD, sh_differ, _, rfl, x, C, dx, _, _, rfl, hx, T.cl, T.nW, sh_widths, _, rfl, _, rfl, w0, _, rfl, SqL.of hw, fun q1 hq1 => ?_⟩
        rw [cut_b (by rw [nv_length]; omega), nv_take]
        have g1 : Go Tt none H (upd H q1 (.lst (nv (a.caps.take i)))) := (Go.refl hT).new hq1
        refine ⟨_, rfl, (by show 1 ≤ sizeLine; decide), fun q2 hq2 => ?_⟩
        have g2 := g1.new (o := .lst [.int (wd : Int)]) hq2
        have q12 : q1 ≠ q2 := fun z => by rw [← z, upd_same] at hq2; cases hq2
        have c24 := hG.c24
        refine ⟨q1, q2, _, _, rfl, rfl, (by rw [upd_ne q12, upd_same]), upd_same, (by rw [nv_length, List.length_take, sizeLine_eq]; simp only [List.length_cons, List.length_nil]; omega), fun q3 hq3 => ?_⟩
        have g3 := g2.new (o := .lst (nv (a.caps.take i) ++ [.int (wd : Int)])) hq3
        refine ⟨_, rfl, x, C, dx, _, _, rfl, g3.of hx fun _ => nofun, T.cl, T.nW, sh_widths, _, rfl, _, _, rfl, rfl, _, rfl, w0, _, rfl, SqL.of (g3.lst hw), fun q4 hq4 => ?_⟩
        have ec : cutV (nv a.caps) (some ((i : Int) + 1)) none = nv (a.caps.drop (i + 1)) := by
          rw [show (i : Int) + 1 = ((i + 1 : Nat) : Int) by omega, cut_a, nv_drop]
        rw [ec]
        have g4 := g3.new (o := .lst (nv (a.caps.drop (i + 1)))) hq4
        have q34 : q3 ≠ q4 := fun z => by rw [← z, upd_same] at hq4; cases hq4
        refine ⟨q3, q4, _, _, rfl, rfl, (by rw [upd_ne q34, upd_same]), upd_same, (by rw [List.length_append, nv_length, nv_length, List.length_take, List.length_drop, sizeLine_eq]; simp only [List.length_cons, List.length_nil]; omega), fun q5 hq5 => ?_⟩
        have g5 := g4.new (o := .lst (nv (a.caps.take i) ++ [.int (wd : Int)] ++ nv (a.caps.drop (i + 1)))) hq5
        refine ⟨x, q5, a, a.each, a.differ, a.caps.set i wd, rfl, ShedAt.go hsh.1 g5, hG.u10, (by rw [upd_same, set_cut hi, nv_append, nv_append]; rfl), g5.ok', fun H6 sh6 g6 => ?_⟩
        refine ⟨_, rfl, (by show 1 ≤ sizeLine; decide), fun q hq => ?_⟩
        have hw2 := okW_of hk
        refine answer_new (s := some a) (r := (some (keep a { a with caps := a.caps.set i wd }), say (a.caps.getD i 0))) fin (g5.weak.trans g6) ⟨sh6, good_keep hG hG.e1 hG.e6 hG.d50 (by show (a.caps.set i wd).length ≤ 24; rw [List.length_set]; exact c24) (mem_set hG.cw hw2)⟩ hq ?_
        show [V.int (wi : Int)] = [V.int ((a.caps.getD i 0 : Nat) : Int)]
        rw [List.getD_eq_getElem?_getD, hwi]
        rfl
    · rw [decide_eq_false hi]
      rw [ed, if_pos (by omega)] at fin
      exact iteT ⟨(by show 1 ≤ sizeLine; decide), fun q hq => answer_new (s := some a) (r := (some a, say (-2))) fin (Go.refl hT) hsh hq rfl⟩

/-! ### each, differ -/
theorem scCe : FnScope ["shed", "given", "each", "was"] ["shed", "given"] (defScope s_call_each) := ⟨rfl, rfl, rfl, by decide +kernel, rfl, by decide +kernel, by decide +kernel⟩
theorem ok_call_each {f fE fS : Addr} {fd fdE fdS : FuncData} (F : Fun K "call_each" "call_each" s_call_each f fd) (T : Txt K mg C) (DE : Dn K mg "is_each" s_is_each ["each"] fE fdE)
    (FS : Fun K "change" "Shed.change" s_Shed_change fS fdS) (bS : Binds K fdS ["self", "each", "differ", "widths"] []) (mS : Meth K C "change" fS) : FnOk P w K mg base CX0 2 f fd ["shed", "given"] (spC C Tt 4) := by
  have GE : FnOk P w K mg base CX0 1 fE fdE ["each"] (spBt 1 6) := ok_is_each DE.fn T
  have GS : FnOk P w K mg base CX0 1 fS fdS ["self", "each", "differ", "widths"] (spChange C Tt) := ok_change FS T
  refine F.ok scCe spC_len (fun cdv A outer s H vs Q E hr h => ?_)
  obtain ⟨x, g, gl, c, st, rfl, hreq, hg, hsh, hs, hT, fin⟩ := h
  obtain ⟨a, rfl⟩ := some_of (hs (by decide))
  cases hreq with
  | each k =>
    refine ⟨_, pss_cons (ps_set (i := 2) scCe.nd rfl (Or.inl rfl) (pe_ix ix_list (pv 1) pe_int (fun _ _ => rfl))) (pss_cons (ps_set (i := 3) scCe.nd rfl (Or.inl rfl) (pe_fld (pv 0) rfl))
      (pss_cons (ps_if (pt_not (pt_val (pe_call GE hr rfl DE.mg_ DE.fn.kp DE.bd .nil pass0 (pa_cons (pv 2) pa_nil)))) (pss_one (ps_ret (pe_lst (pa_cons (pe_gi rfl T.cNot) pa_nil)))) pss_nil)
      (pss_cons (ps_if (pt_cmpR op_eq (pv 2) (pv 3) (nomark _)) (pss_one (ps_ret (pe_lst (pa_cons (pe_gi rfl T.cThat) pa_nil)))) pss_nil)
      (pss_cons (ps_expr (pe_meth (pv 0) T.cl mS GS hr bS .nil pass0 (pa_cons (pv 2) (pa_cons (pe_fld (pv 0) rfl) (pa_cons (pe_fld (pv 0) rfl) pa_nil)))))
      (pss_one (ps_ret (pe_lst (pa_cons (pv 3) pa_nil)))))))), ?_⟩
    obtain ⟨⟨dx, w0, u0, ts, hx, hw, hu, hts⟩, hG⟩ := id hsh
    refine ⟨_, rfl, g, _, _, _, rfl, rfl, SqL.of hg, atI_nat (j := 0) rfl, _, rfl, x, C, dx, _, _, rfl, hx, T.cl, T.nE, sh_each, ?_⟩
    have ed : doing (some a) (.each k) = if okEach k = false then (some a, say (-22)) else if k = a.each then (some a, say (-17)) else (some (keep a { a with each := k }), say a.each) := rfl
    refine ⟨_, rfl, _, rfl, _, rfl, ?_⟩
    rw [bE]
    cases hk : okEach k with
    | false =>
      rw [ed, if_pos hk] at fin
      exact iteT ⟨(by show 1 ≤ sizeLine; decide), fun q hq => answer_new (s := some a) (r := (some a, say (-22))) fin (Go.refl hT) hsh hq rfl⟩
    | true =>
      rw [ed, if_neg (by rw [hk]; exact Bool.noConfusion)] at fin
      refine iteF ⟨_, rfl, _, rfl, rfl, _, rfl, ?_⟩
      rw [dec_nn]
      by_cases he : k = a.each
      · rw [decide_eq_true he]
        rw [if_pos he] at fin
        exact iteT ⟨(by show 1 ≤ sizeLine; decide), fun q hq => answer_new (s := some a) (r := (some a, say (-17))) fin (Go.refl hT) hsh hq rfl⟩
      · rw [decide_eq_false he]
        rw [if_neg he] at fin
        refine iteF ⟨_, rfl, x, dx, _, rfl, hx, sh_no (by decide +kernel), _, rfl, _, rfl, x, C, dx, _, _, rfl, hx, T.cl, T.nD, sh_differ, _, rfl, x, C, dx, _, _, rfl, hx, T.cl, T.nW, sh_widths, x, w0, a, k, a.differ, a.caps, rfl, hsh.1, hG.u10, hw, hT, fun H1 sh1 g1 => ?_⟩
        have he2 := okE_of hk
        exact ⟨_, rfl, (by show 1 ≤ sizeLine; decide), fun q hq => answer_new (s := some a) (r := (some (keep a { a with each := k }), say a.each)) fin g1 ⟨sh1, good_keep hG he2.1 he2.2 hG.d50 hG.c24 hG.cw⟩ hq rfl⟩
theorem scCd : FnScope ["shed", "given", "differ", "was"] ["shed", "given"] (defScope s_call_differ) := ⟨rfl, rfl, rfl, by decide +kernel, rfl, by decide +kernel, by decide +kernel⟩
theorem ok_call_differ {f fE fS : Addr} {fd fdE fdS : FuncData} (F : Fun K "call_differ" "call_differ" s_call_differ f fd) (T : Txt K mg C) (DE : Dn K mg "is_differ" s_is_differ ["differ"] fE fdE)
    (FS : Fun K "change" "Shed.change" s_Shed_change fS fdS) (bS : Binds K fdS ["self", "each", "differ", "widths"] []) (mS : Meth K C "change" fS) : FnOk P w K mg base CX0 2 f fd ["shed", "given"] (spC C Tt 5) := by
  have GE : FnOk P w K mg base CX0 1 fE fdE ["differ"] (spBt 0 50) := ok_is_differ DE.fn T
  have GS : FnOk P w K mg base CX0 1 fS fdS ["self", "each", "differ", "widths"] (spChange C Tt) := ok_change FS T
  refine F.ok scCd spC_len (fun cdv A outer s H vs Q E hr h => ?_)
  obtain ⟨x, g, gl, c, st, rfl, hreq, hg, hsh, hs, hT, fin⟩ := h
  obtain ⟨a, rfl⟩ := some_of (hs (by decide))
  cases hreq with
  | differ d =>
    refine ⟨_, pss_cons (ps_set (i := 2) scCd.nd rfl (Or.inl rfl) (pe_ix ix_list (pv 1) pe_int (fun _ _ => rfl))) (pss_cons (ps_set (i := 3) scCd.nd rfl (Or.inl rfl) (pe_fld (pv 0) rfl))
      (pss_cons (ps_if (pt_not (pt_val (pe_call GE hr rfl DE.mg_ DE.fn.kp DE.bd .nil pass0 (pa_cons (pv 2) pa_nil)))) (pss_one (ps_ret (pe_lst (pa_cons (pe_gi rfl T.cNot) pa_nil)))) pss_nil)
      (pss_cons (ps_if (pt_cmpR op_eq (pv 2) (pv 3) (nomark _)) (pss_one (ps_ret (pe_lst (pa_cons (pe_gi rfl T.cThat) pa_nil)))) pss_nil)
      (pss_cons (ps_expr (pe_meth (pv 0) T.cl mS GS hr bS .nil pass0 (pa_cons (pe_fld (pv 0) rfl) (pa_cons (pv 2) (pa_cons (pe_fld (pv 0) rfl) pa_nil)))))
      (pss_one (ps_ret (pe_lst (pa_cons (pv 3) pa_nil)))))))), ?_⟩
    obtain ⟨⟨dx, w0, u0, ts, hx, hw, hu, hts⟩, hG⟩ := id hsh
    refine ⟨_, rfl, g, _, _, _, rfl, rfl, SqL.of hg, atI_nat (j := 0) rfl, _, rfl, x, C, dx, _, _, rfl, hx, T.cl, T.nD, sh_differ, ?_⟩
    have ed : doing (some a) (.differ d) = if DIFFER < d then (some a, say (-22)) else if d = a.differ then (some a, say (-17)) else (some (keep a { a with differ := d }), say a.differ) := rfl
    refine ⟨_, rfl, _, rfl, _, rfl, ?_⟩
    rw [bD]
    by_cases hk : DIFFER < d
    · rw [decide_eq_true hk]
      rw [ed, if_pos hk] at fin
      exact iteT ⟨(by show 1 ≤ sizeLine; decide), fun q hq => answer_new (s := some a) (r := (some a, say (-22))) fin (Go.refl hT) hsh hq rfl⟩
    · rw [decide_eq_false hk]
      rw [ed, if_neg hk] at fin
      refine iteF ⟨_, rfl, _, rfl, rfl, _, rfl, ?_⟩
      rw [dec_nn]
      by_cases he : d = a.differ
      · rw [decide_eq_true he]
        rw [if_pos he] at fin
        exact iteT ⟨(by show 1 ≤ sizeLine; decide), fun q hq => answer_new (s := some a) (r := (some a, say (-17))) fin (Go.refl hT) hsh hq rfl⟩
      · rw [decide_eq_false he]
        rw [if_neg he] at fin
        refine iteF ⟨_, rfl, x, dx, _, rfl, hx, sh_no (by decide +kernel), _, rfl, x, C, dx, _, _, rfl, hx, T.cl, T.nE, sh_each, _, rfl, _, rfl, x, C, dx, _, _, rfl, hx, T.cl, T.nW, sh_widths, x, w0, a, a.each, d, a.caps, rfl, hsh.1, hG.u10, hw, hT, fun H1 sh1 g1 => ?_⟩
        have hd2 : d ≤ 50 := by unfold DIFFER at hk; omega
        exact ⟨_, rfl, (by show 1 ≤ sizeLine; decide), fun q hq => answer_new (s := some a) (r := (some (keep a { a with differ := d }), say a.differ)) fin g1 ⟨sh1, good_keep hG hG.e1 hG.e6 hd2 hG.c24 hG.cw⟩ hq rfl⟩

/-! ### back -/
theorem scBk : FnScope ["shed", "given"] ["shed", "given"] (defScope s_call_back) := ⟨rfl, rfl, rfl, by decide +kernel, rfl, by decide +kernel, by decide +kernel⟩
theorem ok_call_back {f fS : Addr} {fd fdS : FuncData} (F : Fun K "call_back" "call_back" s_call_back f fd) (T : Txt K mg C)
    (FS : Fun K "take_back" "Shed.take_back" s_Shed_take_back fS fdS) (bS : Binds K fdS ["self"] []) (mS : Meth K C "take_back" fS) : FnOk P w K mg base CX0 2 f fd ["shed", "given"] (spC C Tt 6) := by
  have GS : FnOk P w K mg base CX0 1 fS fdS ["self"] (spBack C Tt) := ok_take_back FS T
  refine F.ok scBk spC_len (fun cdv A outer s H vs Q E hr h => ?_)
  obtain ⟨x, g, gl, c, st, rfl, hreq, hg, hsh, hs, hT, fin⟩ := h
  obtain ⟨a, rfl⟩ := some_of (hs (by decide))
  cases hreq with
  | back =>
    refine ⟨_, pss_cons (ps_if (pt_cmpR op_eq (pe_callB call_len_seq rfl T.len PySem.boot_len (pa_cons (pe_fld (pv 0) rfl) pa_nil)) pe_int (nomark _)) (pss_one (ps_ret (pe_lst (pa_cons (pe_gi rfl T.cNoB) pa_nil)))) pss_nil)
      (pss_cons (ps_expr (pe_meth0 (pv 0) T.cl mS GS hr bS .nil pass0))
      (pss_one (ps_ret (pe_lst (pa_cons (pe_callB call_len_seq rfl T.len PySem.boot_len (pa_cons (pe_fld (pv 0) rfl) pa_nil)) pa_nil))))), ?_⟩
    obtain ⟨⟨dx, w0, u0, ts, hx, hw, hu, hts⟩, hG⟩ := id hsh
    have tl : ts.length = a.undo.length := by rw [Paired.length hts, List.length_reverse]
    refine ⟨_, rfl, x, C, dx, _, _, rfl, hx, T.cl, T.nU, sh_earlier, u0, _, rfl, .inl (SqL.of hu), rfl, _, rfl, ?_⟩
    have el : (ts.map V.ref).length = a.undo.length := by rw [List.length_map, tl]
    rw [el]
    have e0 := dec_nn a.undo.length 0
    cases hun : a.undo with
    | nil =>
      rw [hun] at e0
      have e0' : decide (V.int (([] : List (Nat × Nat × List Nat)).length : Int) = V.int 0) = true := by rw [show (0 : Int) = ((0 : Nat) : Int) from rfl, e0]; rfl
      rw [e0']
      have ed : doing (some a) .back = (some a, say (-2)) := by
        show (match a.undo with | x :: u => (some (⟨x.1, x.2.1, x.2.2, u⟩ : Abs), say u.length) | [] => (some a, say (-2))) = _
        rw [hun]
      rw [ed] at fin
      exact iteT ⟨(by show 1 ≤ sizeLine; decide), fun q hq => answer_new (s := some a) (r := (some a, say (-2))) fin (Go.refl hT) hsh hq rfl⟩
    | cons y u =>
      rw [hun] at e0
      have e0' : decide (V.int (((y :: u).length : Nat) : Int) = V.int 0) = false := by rw [show (0 : Int) = ((0 : Nat) : Int) from rfl, e0]; rfl
      rw [e0']
      have ed : doing (some a) .back = (some ⟨y.1, y.2.1, y.2.2, u⟩, say u.length) := by
        show (match a.undo with | x :: u => (some (⟨x.1, x.2.1, x.2.2, u⟩ : Abs), say u.length) | [] => (some a, say (-2))) = _
        rw [hun]
      rw [ed] at fin
      refine iteF ⟨_, rfl, x, dx, _, rfl, hx, sh_no (by decide +kernel), x, a, y, u, rfl, hsh.1, hun, hT, fun H1 sh1 g1 => ?_⟩
      obtain ⟨dx1, w1, u1, ts1, hx1, hw1, hu1, hts1⟩ := id sh1
      refine ⟨_, rfl, x, C, dx1, _, _, rfl, hx1, T.cl, T.nU, sh_earlier, u1, _, rfl, .inl (SqL.of hu1), (by show 1 ≤ sizeLine; decide), fun q hq => ?_⟩
      have hy := hG.u y (by rw [hun]; exact List.mem_cons_self ..)
      have tl1 : ts1.length = u.length := by rw [Paired.length hts1, List.length_reverse]
      refine answer_new (s := some a) (r := (some ⟨y.1, y.2.1, y.2.2, u⟩, say u.length)) fin g1 ⟨sh1, ⟨hy.1.1, hy.1.2, hy.2.1, hy.2.2.1, hy.2.2.2, by have := hG.u10; rw [hun, List.length_cons] at this; show u.length ≤ 10; omega, fun z hz => hG.u z (by rw [hun]; exact List.mem_cons_of_mem _ hz)⟩⟩ hq ?_
      show [V.int ((ts1.map V.ref).length : Int)] = _
      rw [List.length_map, tl1]
      rfl
end
end Mush

namespace Mush
open PySem PySem.Spec PyProof.Rows L2 Kh366
theorem ans_list (l : List Nat) : [V.int (l.length : Int)] ++ nv l = (ansL (Kh366.list l)).map V.int := by
  unfold ansL Kh366.list nv
  rw [List.map_cons, List.map_map]
  rfl
theorem punnets_le {a : Abs} (h : Good a) : (punnets a).length ≤ 24 := Nat.le_trans (punnets_len h.e1) h.c24
theorem punnet_le {a : Abs} (h : Good a) {p : List Nat} (hp : p ∈ punnets a) : p.length ≤ 6 := by
  rw [(punnets_mem h.e1 hp).2.1]
  exact h.e6
section
variable {P : Program} {w : World} {K : PySem.W.Frag} {mg : Str → Option Value} {base : Heap} {C : Addr} {Tt : Tb}

/-! ### count -/
theorem scCn : FnScope ["shed", "given"] ["shed", "given"] (defScope s_call_count) := ⟨rfl, rfl, rfl, by decide +kernel, rfl, by decide +kernel, by decide +kernel⟩
theorem ok_call_count {f fP : Addr} {fd fdP : FuncData} {k : Nat} (F : Fun K "call_count" "call_count" s_call_count f fd) (T : Txt K mg C) (DP : Dn K mg "packed_in" s_packed_in ["shed"] fP fdP) (GP : FnOk P w K mg base CX0 k fP fdP ["shed"] (spPackedIn C Tt)) :
    FnOk P w K mg base CX0 (k + 1) f fd ["shed", "given"] (spC C Tt 7) := by
  refine F.ok scCn spC_len (fun cdv A outer s H vs Q E hr h => ?_)
  obtain ⟨x, g, gl, c, st, rfl, hreq, hg, hsh, hs, hT, fin⟩ := h
  obtain ⟨a, rfl⟩ := some_of (hs (by decide))
  cases hreq with
  | count =>
    refine ⟨_, pss_one (ps_ret (pe_lst (pa_cons (pe_callB call_len_seq rfl T.len PySem.boot_len (pa_cons (pe_call GP hr rfl DP.mg_ DP.fn.kp DP.bd .nil pass0 (pa_cons (pv 0) pa_nil)) pa_nil)) pa_nil))), ?_⟩
    refine ⟨_, rfl, x, a, rfl, hsh.1, hsh.2, hT, fun H1 p ps g1 np hp pp => ⟨p, _, rfl, .inl (SqL.of hp), (by show 1 ≤ sizeLine; decide), fun q hq => ?_⟩⟩
    refine answer_new (s := some a) fin g1.weak (ShedIs.go hsh g1) hq ?_
    show [V.int ((ps.map V.ref).length : Int)] = [V.int (((punnets a).length : Nat) : Int)]
    rw [List.length_map, Paired.length pp]

/-! ### punnet -/
theorem scCp : FnScope ["shed", "given", "p", "punnets"] ["shed", "given"] (defScope s_call_punnet) := ⟨rfl, rfl, rfl, by decide +kernel, rfl, by decide +kernel, by decide +kernel⟩
theorem ok_call_punnet {f fP : Addr} {fd fdP : FuncData} {k : Nat} (F : Fun K "call_punnet" "call_punnet" s_call_punnet f fd) (T : Txt K mg C) (DP : Dn K mg "packed_in" s_packed_in ["shed"] fP fdP) (GP : FnOk P w K mg base CX0 k fP fdP ["shed"] (spPackedIn C Tt)) :
    FnOk P w K mg base CX0 (k + 1) f fd ["shed", "given"] (spC C Tt 8) := by
  refine F.ok scCp spC_len (fun cdv A outer s H vs Q E hr h => ?_)
  obtain ⟨x, g, gl, c, st, rfl, hreq, hg, hsh, hs, hT, fin⟩ := h
  obtain ⟨a, rfl⟩ := some_of (hs (by decide))
  cases hreq with
  | punnet n =>
    refine ⟨_, pss_cons (ps_set (i := 2) scCp.nd rfl (Or.inl rfl) (pe_ix ix_list (pv 1) pe_int (fun _ _ => rfl)))
      (pss_cons (ps_set (i := 3) scCp.nd rfl (Or.inl rfl) (pe_call GP hr rfl DP.mg_ DP.fn.kp DP.bd .nil pass0 (pa_cons (pv 0) pa_nil)))
      (pss_cons (ps_if (pt_cmpR op_ge (pv 2) (pe_callB call_len_seq rfl T.len PySem.boot_len (pa_cons (pv 3) pa_nil)) (nomark _)) (pss_one (ps_ret (pe_lst (pa_cons (pe_gi rfl T.cPun) pa_nil)))) pss_nil)
      (pss_one (ps_ret (pe_op op_cat (pe_lst (pa_cons (pe_callB call_len_seq rfl T.len PySem.boot_len (pa_cons (pe_ix ix_list (pv 3) (pv 2) (fun _ _ => rfl)) pa_nil)) pa_nil)) (pe_ix ix_list (pv 3) (pv 2) (fun _ _ => rfl))))))), ?_⟩
    refine ⟨_, rfl, g, _, _, _, rfl, rfl, SqL.of hg, atI_nat (j := 0) rfl, _, rfl, x, a, rfl, hsh.1, hsh.2, hT, fun H1 p ps g1 np hp pp => ?_⟩
    refine ⟨_, rfl, _, rfl, p, _, rfl, .inl (SqL.of hp), _, _, rfl, rfl, _, rfl, ?_⟩
    have pl : ps.length = (punnets a).length := Paired.length pp
    rw [List.length_map, pl, show decide (((punnets a).length : Int) ≤ (n : Int)) = decide ((punnets a).length ≤ n) from decide_eq_decide.mpr (by omega)]
    have ed : doing (some a) (.punnet n) = (match (punnets a)[n]? with | none => (some a, say (-33)) | some l => (some a, Kh366.list l)) := rfl
    by_cases hn : (punnets a).length ≤ n
    · rw [decide_eq_true hn]
      rw [ed, List.getElem?_eq_none hn] at fin
      exact iteT ⟨(by show 1 ≤ sizeLine; decide), fun q hq => answer_new (s := some a) (r := (some a, say (-33))) fin g1.weak (ShedIs.go hsh g1) hq rfl⟩
    · rw [decide_eq_false hn]
      obtain ⟨l, hl⟩ : ∃ l, (punnets a)[n]? = some l := ⟨_, List.getElem?_eq_getElem (by omega)⟩
      obtain ⟨t, ht, htl⟩ := Paired.at2 pp hl
      rw [ed, hl] at fin
      have atn : atI (ps.map V.ref) (n : Int) = some (.ref t) := atI_nat (by rw [List.getElem?_map, ht]; rfl)
      refine iteF ⟨_, rfl, _, rfl, p, _, _, _, rfl, rfl, SqL.of hp, atn, t, _, rfl, .inl (SqL.of htl), (by show 1 ≤ sizeLine; decide), fun q1 hq1 => ?_⟩
      have g2 := g1.new (o := .lst [.int ((nv l).length : Int)]) hq1
      have l6 := punnet_le hsh.2 (List.mem_of_getElem? hl)
      have hp2 : upd H1 q1 (.lst [.int ((nv l).length : Int)]) p = some (.lst (ps.map V.ref)) := by rw [upd_ne (ne_of_none hp hq1)]; exact hp
      have ht2 : upd H1 q1 (.lst [.int ((nv l).length : Int)]) t = some (.lst (nv l)) := by rw [upd_ne (ne_of_none htl hq1)]; exact htl
      refine ⟨_, rfl, _, rfl, p, _, _, _, rfl, rfl, SqL.of hp2, atn, q1, t, _, _, rfl, rfl, upd_same, ht2, (by rw [nv_length, sizeLine_eq]; simp only [List.length_cons, List.length_nil]; omega), fun q hq => ?_⟩
      refine answer_new (s := some a) (r := (some a, Kh366.list l)) fin g2.weak (ShedIs.go hsh g2) hq ?_
      show [V.int ((nv l).length : Int)] ++ nv l = _
      rw [nv_length]
      exact ans_list l

/-! ### which -/
theorem scWh : FnScope ["shed", "given", "i", "p"] ["shed", "given"] (defScope s_call_which) := ⟨rfl, rfl, rfl, by decide +kernel, rfl, by decide +kernel, by decide +kernel⟩
theorem ok_call_which {f fM fP fI : Addr} {fd fdM fdP fdI : FuncData} {k : Nat} (F : Fun K "call_which" "call_which" s_call_which f fd) (T : Txt K mg C) (DM : Dn K mg "is_mushroom" s_is_mushroom ["shed", "i"] fM fdM) (DI : Dn K mg "punnet_with" s_punnet_with ["punnets", "i"] fI fdI)
    (DP : Dn K mg "packed_in" s_packed_in ["shed"] fP fdP) (GP : FnOk P w K mg base CX0 (k + 1) fP fdP ["shed"] (spPackedIn C Tt)) : FnOk P w K mg base CX0 (k + 2) f fd ["shed", "given"] (spC C Tt 9) := by
  have GM : FnOk P w K mg base CX0 1 fM fdM ["shed", "i"] (spIsM C) := ok_is_mushroom DM.fn T
  have GI : FnOk P w K mg base CX0 1 fI fdI ["punnets", "i"] (spPunWith Tt) := ok_punnet_with DI.fn T
  refine F.ok scWh spC_len (fun cdv A outer s H vs Q E hr h => ?_)
  obtain ⟨x, g, gl, c, st, rfl, hreq, hg, hsh, hs, hT, fin⟩ := h
  obtain ⟨a, rfl⟩ := some_of (hs (by decide))
  have hr1 : Room 1 _ := hr.mono (by omega)
  cases hreq with
  | which i =>
    refine ⟨_, pss_cons (ps_set (i := 2) scWh.nd rfl (Or.inl rfl) (pe_ix ix_list (pv 1) pe_int (fun _ _ => rfl)))
      (pss_cons (ps_if (pt_not (pt_val (pe_call GM hr1 rfl DM.mg_ DM.fn.kp DM.bd .nil pass0 (pa_cons (pv 0) (pa_cons (pv 2) pa_nil))))) (pss_one (ps_ret (pe_lst (pa_cons (pe_gi rfl T.cNoM) pa_nil)))) pss_nil)
      (pss_cons (ps_set (i := 3) scWh.nd rfl (Or.inl rfl) (pe_call GI hr1 rfl DI.mg_ DI.fn.kp DI.bd .nil pass0 (pa_cons (pe_call GP hr rfl DP.mg_ DP.fn.kp DP.bd .nil pass0 (pa_cons (pv 0) pa_nil)) (pa_cons (pv 2) pa_nil))))
      (pss_cons (ps_if (pt_cmpR op_isN (pv 3) pe_non (nomark _)) (pss_one (ps_ret (pe_lst (pa_cons (pe_gi rfl T.cPun) pa_nil)))) pss_nil)
      (pss_one (ps_ret (pe_lst (pa_cons (pv 3) pa_nil))))))), ?_⟩
    refine ⟨_, rfl, g, _, _, _, rfl, rfl, SqL.of hg, atI_nat (j := 0) rfl, ?_⟩
    have ed : doing (some a) (.which i) = if a.caps.length ≤ i then (some a, say (-2)) else (match (punnets a).findIdx? fun p => p.contains i with | none => (some a, say (-33)) | some p => (some a, say p)) := rfl
    refine ⟨_, rfl, _, rfl, x, a, i, rfl, hsh.1, _, rfl, ?_⟩
    by_cases hi : i < a.caps.length
    · rw [decide_eq_true hi]
      rw [ed, if_neg (by omega)] at fin
      refine iteF ⟨_, rfl, x, a, rfl, hsh.1, hsh.2, hT, fun H1 p ps g1 np hp pp => ⟨_, rfl, p, ps, _, i, rfl, hp, pp, g1.ok', fun H2 g2 => ?_⟩⟩
      refine ⟨_, rfl, rfl, _, rfl, ?_⟩
      have g12 := g1.trans g2
      cases hf : (punnets a).findIdx? fun p => p.contains i with
      | none =>
        rw [hf] at fin
        exact iteT ⟨(by show 1 ≤ sizeLine; decide), fun q hq => answer_new (s := some a) (r := (some a, say (-33))) fin g12.weak (ShedIs.go hsh g12) hq rfl⟩
      | some n =>
        rw [hf] at fin
        exact iteF ⟨_, rfl, (by show 1 ≤ sizeLine; decide), fun q hq => answer_new (s := some a) (r := (some a, say n)) fin g12.weak (ShedIs.go hsh g12) hq rfl⟩
    · rw [decide_eq_false hi]
      rw [ed, if_pos (by omega)] at fin
      exact iteT ⟨(by show 1 ≤ sizeLine; decide), fun q hq => answer_new (s := some a) (r := (some a, say (-2))) fin (Go.refl hT) hsh hq rfl⟩

/-! ### left -/
theorem scLf : FnScope ["shed", "given", "punnets", "over", "i"] ["shed", "given"] (defScope s_call_left) := ⟨rfl, rfl, rfl, by decide +kernel, rfl, by decide +kernel, by decide +kernel⟩
def leftScope : Scope := match defBody s_call_left with
  | [_, .Assign _ (.ListComp _ _ sc _) _, _] => sc
  | _ => { kind := .function, names := [], isGenerator := false, isCoroutine := false }
theorem leftBlk : blkC ["shed", "given", "punnets", "over", "i"] (defScope s_call_left) leftScope [("i", 4)] = true := by decide +kernel
theorem findIdx_any (pp : List (List Nat)) (i : Nat) : decide (idxV (pp.findIdx? fun p => p.contains i) = .non) = !(pp.any fun p => p.contains i) := by
  cases h : pp.findIdx? fun p => p.contains i with
  | none =>
    rw [List.findIdx?_eq_none_iff] at h
    have : (pp.any fun p => p.contains i) = false := by
      rw [List.any_eq_false]
      intro p hp
      rw [h p hp]
      exact Bool.false_ne_true
    rw [this]
    rfl
  | some n =>
    rw [List.findIdx?_eq_some_iff_getElem] at h
    obtain ⟨h1, h2, _⟩ := h
    have : (pp.any fun p => p.contains i) = true := List.any_eq_true.mpr ⟨_, List.getElem_mem h1, h2⟩
    rw [this]
    rfl
theorem ok_call_left {f fP fI : Addr} {fd fdP fdI : FuncData} {k : Nat} (F : Fun K "call_left" "call_left" s_call_left f fd) (T : Txt K mg C) (DI : Dn K mg "punnet_with" s_punnet_with ["punnets", "i"] fI fdI)
    (DP : Dn K mg "packed_in" s_packed_in ["shed"] fP fdP) (GP : FnOk P w K mg base CX0 (k + 1) fP fdP ["shed"] (spPackedIn C Tt)) : FnOk P w K mg base CX0 (k + 2) f fd ["shed", "given"] (spC C Tt 10) := by
  have GI : FnOk P w K mg base CX0 1 fI fdI ["punnets", "i"] (spPunWith Tt) := ok_punnet_with DI.fn T
  refine F.ok scLf spC_len (fun cdv A outer s H vs Q E hr h => ?_)
  obtain ⟨x, g, gl, c, st, rfl, hreq, hg, hsh, hs, hT, fin⟩ := h
  obtain ⟨a, rfl⟩ := some_of (hs (by decide))
  have hr1 : Room 1 _ := hr.mono (by omega)
  cases hreq with
  | left =>
    refine ⟨_, pss_cons (ps_set (i := 2) scLf.nd rfl (Or.inr rfl) (pe_call GP hr rfl DP.mg_ DP.fn.kp DP.bd .nil pass0 (pa_cons (pv 0) pa_nil)))
      (pss_cons (ps_setLc (i := 3) (own := [("i", 4)]) rfl scLf.nd rfl rfl (sw_true rfl rfl rfl rfl) (pi_range1 rfl T.range (pa_cons (pe_callB call_len_seq rfl T.len PySem.boot_len (pa_cons (pe_fld (pv 0) rfl) pa_nil)) pa_nil)) (blkOk_by leftBlk)
        (fun _ _ _ _ _ => pg_name (i := 4) scLf.nd rfl (Or.inl rfl)) (fun _ _ _ _ _ => pts_one (pt_cmpR op_isN (pe_call GI hr1 rfl DI.mg_ DI.fn.kp DI.bd .nil pass0 (pa_cons (pv 2) (pa_cons (pv 4) pa_nil))) pe_non (nomark _))) (fun _ _ _ _ _ => pv 4))
      (pss_one (ps_ret (pe_op op_cat (pe_lst (pa_cons (pe_callB call_len_seq rfl T.len PySem.boot_len (pa_cons (pv 3) pa_nil)) pa_nil)) (pv 3))))), ?_⟩
    refine ⟨_, rfl, x, a, rfl, hsh.1, hsh.2, hT, fun H1 p ps g1 np hp pp => ?_⟩
    obtain ⟨dx, w0, u0, ts, hx, hw, hu, hts⟩ := ShedAt.go hsh.1 g1
    have c24 := hsh.2.c24
    have en : (((nv a.caps).length : Nat) : Int).toNat = a.caps.length := by rw [nv_length]; omega
    refine ⟨_, rfl, x, C, dx, _, _, rfl, hx, T.cl, T.nW, sh_widths, w0, _, rfl, .inl (SqL.of hw), _, rfl, (by omega), (by rw [nv_length]; omega), fun D hD => lc_range (lo := 0) (fun i H' => i ≤ a.caps.length ∧ Go Tt none H1 H' ∧ H' D = some (.lst (nv ((List.range i).filter fun j => !((punnets a).any fun p => p.contains j)))))
      ⟨Nat.zero_le _, (Go.refl g1.ok').new hD, upd_same⟩ ?_ ?_⟩
    · rintro i H' hi ⟨hil, g', hD'⟩
      rw [en] at hi
      have pl : ((List.range i).filter fun j => !((punnets a).any fun p => p.contains j)).length ≤ i := by
        have := List.length_filter_le (fun j => !((punnets a).any fun p => p.contains j)) (List.range i)
        rw [List.length_range] at this
        exact this
      refine ⟨rfl, _, rfl, _, rfl, p, ps, _, i, (by rw [Int.zero_add]; rfl), g'.lst hp, pp.go g', g'.ok', fun H2 g2 => ⟨rfl, _, rfl, ?_⟩⟩
      rw [findIdx_any]
      have gg := g'.trans g2
      cases hc : (punnets a).any fun p => p.contains i with
      | true =>
        refine iteF ⟨hi, gg, ?_⟩
        rw [List.range_succ, List.filter_append, List.filter_cons_of_neg (by rw [hc]; exact Bool.false_ne_true), List.filter_nil, List.append_nil]
        exact g2.lst hD'
      | false =>
        refine iteT ⟨_, rfl, _, g2.lst hD', (by rw [nv_length, sizeLine_eq]; omega), hi, gg.set (u := .lst (nv ((List.range i).filter fun j => !((punnets a).any fun p => p.contains j)))) (g2.lst hD') (fun _ => nofun) (fun _ => nofun) (.inl hD), ?_⟩
        rw [upd_same, List.range_succ, List.filter_append, List.filter_cons_of_pos (by rw [hc]; rfl), List.filter_nil, nv_append, Int.zero_add]
        rfl
    · rintro H' ⟨_, g', hD'⟩
      rw [en] at hD'
      have hD2 : H' D = some (.lst (nv (Kh366.left a))) := hD'
      have ll : (Kh366.left a).length ≤ 24 := by
        have := List.length_filter_le (fun j => !((punnets a).any fun p => p.contains j)) (List.range a.caps.length)
        rw [List.length_range] at this
        exact Nat.le_trans this c24
      have gg := g1.trans g'
      refine ⟨_, rfl, D, _, rfl, .inl (SqL.of hD2), (by show 1 ≤ sizeLine; decide), fun q1 hq1 => ?_⟩
      have g2 := gg.new (o := .lst [.int ((nv (Kh366.left a)).length : Int)]) hq1
      refine ⟨_, rfl, q1, D, _, _, rfl, rfl, upd_same, (by rw [upd_ne (ne_of_none hD2 hq1)]; exact hD2), (by rw [nv_length, sizeLine_eq]; simp only [List.length_cons, List.length_nil]; omega), fun q hq => ?_⟩
      refine answer_new (s := some a) (r := (some a, Kh366.list (Kh366.left a))) fin g2.weak (ShedIs.go hsh g2) hq ?_
      show [V.int ((nv (Kh366.left a)).length : Int)] ++ nv (Kh366.left a) = _
      rw [nv_length]
      exact ans_list _
end
end Mush

namespace Mush
open PySem PySem.Spec PyProof.Rows L2 Kh366
theorem nodup_ofNat (l : List Nat) : (l.map Int.ofNat).Nodup ↔ l.Nodup := by
  unfold List.Nodup
  rw [List.pairwise_map]
  exact ⟨fun h => h.imp fun {a b} hab e => hab (by rw [e]), fun h => h.imp fun {a b} hab e => hab (Int.ofNat.inj e)⟩
section
variable {P : Program} {w : World} {K : PySem.W.Frag} {mg : Str → Option Value} {base : Heap} {C : Addr} {Tt : Tb}

/-! ### how_many -/
def spHow (T : Tb) : Sp := fun vs H Q _ => ∃ (a : Addr) (l : List Nat) (k d : Nat), vs = [.ref a, .int k, .int d] ∧ H a = some (.lst (nv l)) ∧ l.length ≤ 30 ∧ 1 ≤ k ∧ T.Ok H ∧ ∀ H' : Hp, Go T none H H' → Q (.int ((countBy k d l : Nat) : Int)) H'
theorem scHm : FnScope ["widths", "each", "differ"] ["widths", "each", "differ"] (defScope s_how_many) := ⟨rfl, rfl, rfl, by decide +kernel, rfl, by decide +kernel, by decide +kernel⟩
theorem ok_how_many {f fP : Addr} {fd fdP : FuncData} {kP : Nat} (F : Fun K "how_many" "how_many" s_how_many f fd) (T : Txt K mg C) (GP : FnOk P w K mg base CX0 kP fP fdP ["widths", "each", "differ"] (spPacked Tt))
    (DP : Dn K mg "packed" s_packed ["widths", "each", "differ"] fP fdP) : FnOk P w K mg base CX0 (kP + 1) f fd ["widths", "each", "differ"] (spHow Tt) := by
  refine F.ok scHm (fun vs H Q E h => ?_) (fun cdv A outer s H vs Q E hr h => ?_)
  · obtain ⟨a, l, k, d, rfl, _⟩ := h
    rfl
  · obtain ⟨a, l, k, d, rfl, ha, hl, hk, hT, fin⟩ := h
    refine ⟨_, pss_one (ps_ret (pe_callB call_len_seq rfl T.len PySem.boot_len (pa_cons (pe_call GP hr rfl DP.mg_ DP.fn.kp DP.bd .nil pass0 (pa_cons (pv 0) (pa_cons (pv 1) (pa_cons (pv 2) pa_nil)))) pa_nil))), ?_⟩
    refine ⟨_, rfl, _, rfl, _, rfl, a, l, k, d, rfl, ha, hl, hk, hT, fun H' p ps g n e pp => ⟨p, _, rfl, .inl (SqL.of e), ?_⟩⟩
    show Q (.int ((ps.map V.ref).length : Int)) H'
    rw [List.length_map, Paired.length pp]
    exact fin H' g

/-! ### how_many_with -/
def spWith (C : Addr) (T : Tb) : Sp := fun vs H Q _ => ∃ (x : Addr) (a : Abs) (wd : Nat), vs = [.ref x, .int (wd : Int)] ∧ ShedAt C H x true a ∧ Good a ∧ T.Ok H ∧ ∀ H' : Hp, Go T none H H' → Q (.int ((withMore a wd : Nat) : Int)) H'
theorem scHw : FnScope ["shed", "width"] ["shed", "width"] (defScope s_how_many_with) := ⟨rfl, rfl, rfl, by decide +kernel, rfl, by decide +kernel, by decide +kernel⟩
theorem ok_with {f fP : Addr} {fd fdP : FuncData} {kP : Nat} (F : Fun K "how_many_with" "how_many_with" s_how_many_with f fd) (T : Txt K mg C) (GP : FnOk P w K mg base CX0 kP fP fdP ["widths", "each", "differ"] (spHow Tt))
    (DP : Dn K mg "how_many" s_how_many ["widths", "each", "differ"] fP fdP) : FnOk P w K mg base CX0 (kP + 1) f fd ["shed", "width"] (spWith C Tt) := by
  refine F.ok scHw (fun vs H Q E h => ?_) (fun cdv A outer s H vs Q E hr h => ?_)
  · obtain ⟨x, a, wd, rfl, _⟩ := h
    rfl
  · obtain ⟨x, a, wd, rfl, ⟨dx, w0, u, ts, hx, hw, hu, hts⟩, hG, hT, fin⟩ := h
    have c24 := hG.c24
    refine ⟨_, pss_one (ps_ret (pe_call GP hr rfl DP.mg_ DP.fn.kp DP.bd .nil pass0 (pa_cons (pe_op op_cat (pe_fld (pv 0) rfl) (pe_lst (pa_cons (pv 1) pa_nil))) (pa_cons (pe_fld (pv 0) rfl) (pa_cons (pe_fld (pv 0) rfl) pa_nil))))), ?_⟩
    refine ⟨_, rfl, x, C, dx, _, _, rfl, hx, T.cl, T.nW, sh_widths, _, rfl, (by show 1 ≤ sizeLine; decide), fun q1 hq1 => ?_⟩
    have g1 : Go Tt none H (upd H q1 (.lst [.int (wd : Int)])) := (Go.refl hT).new hq1
    refine ⟨w0, q1, _, _, rfl, rfl, g1.lst hw, upd_same, (by rw [nv_length, sizeLine_eq]; simp only [List.length_cons, List.length_nil]; omega), fun q2 hq2 => ?_⟩
    have g2 := g1.new (o := .lst (nv a.caps ++ [.int (wd : Int)])) hq2
    have hx2 := g2.of hx fun _ => nofun
    have e2 : upd (upd H q1 (.lst [.int (wd : Int)])) q2 (.lst (nv a.caps ++ [.int (wd : Int)])) q2 = some (.lst (nv (a.caps ++ [wd]))) := by rw [upd_same, nv_append]; rfl
    exact ⟨_, rfl, x, C, dx, _, _, rfl, hx2, T.cl, T.nE, sh_each, _, rfl, x, C, dx, _, _, rfl, hx2, T.cl, T.nD, sh_differ,
      q2, a.caps ++ [wd], a.each, a.differ, rfl, e2, (by rw [List.length_append]; simp only [List.length_cons, List.length_nil]; omega), hG.e1, g2.ok', fun H' g => fin H' (g2.trans g)⟩

/-! ### how_many_without -/
def spWithout (C : Addr) (T : Tb) : Sp := fun vs H Q _ => ∃ (x : Addr) (a : Abs) (i : Nat), vs = [.ref x, .int (i : Int)] ∧ i < a.caps.length ∧ ShedAt C H x true a ∧ Good a ∧ T.Ok H ∧ ∀ H' : Hp, Go T none H H' → Q (.int ((Kh366.count (without a i) : Nat) : Int)) H'
theorem scHo : FnScope ["shed", "i"] ["shed", "i"] (defScope s_how_many_without) := ⟨rfl, rfl, rfl, by decide +kernel, rfl, by decide +kernel, by decide +kernel⟩
theorem ok_without {f fP : Addr} {fd fdP : FuncData} {kP : Nat} (F : Fun K "how_many_without" "how_many_without" s_how_many_without f fd) (T : Txt K mg C) (GP : FnOk P w K mg base CX0 kP fP fdP ["widths", "each", "differ"] (spHow Tt))
    (DP : Dn K mg "how_many" s_how_many ["widths", "each", "differ"] fP fdP) : FnOk P w K mg base CX0 (kP + 1) f fd ["shed", "i"] (spWithout C Tt) := by
  refine F.ok scHo (fun vs H Q E h => ?_) (fun cdv A outer s H vs Q E hr h => ?_)
  · obtain ⟨x, a, i, rfl, _⟩ := h
    rfl
  · obtain ⟨x, a, i, rfl, hi, ⟨dx, w0, u, ts, hx, hw, hu, hts⟩, hG, hT, fin⟩ := h
    have c24 := hG.c24
    refine ⟨_, pss_one (ps_ret (pe_call GP hr rfl DP.mg_ DP.fn.kp DP.bd .nil pass0 (pa_cons (pe_op op_cat (pe_slice sl_list (pe_fld (pv 0) rfl) po_none (po_some (pv 1))) (pe_slice sl_list (pe_fld (pv 0) rfl) (po_some (pe_op op_add (pv 1) pe_int)) po_none))
      (pa_cons (pe_fld (pv 0) rfl) (pa_cons (pe_fld (pv 0) rfl) pa_nil))))), ?_⟩
    refine ⟨_, rfl, x, C, dx, _, _, rfl, hx, T.cl, T.nW, sh_widths, _, rfl, _, rfl, w0, _, rfl, SqL.of hw, fun q1 hq1 => ?_⟩
    rw [cut_b (by rw [nv_length]; omega), nv_take]
    have g1 : Go Tt none H (upd H q1 (.lst (nv (a.caps.take i)))) := (Go.refl hT).new hq1
    refine ⟨_, rfl, x, C, dx, _, _, rfl, g1.of hx fun _ => nofun, T.cl, T.nW, sh_widths, _, rfl, _, _, rfl, rfl, _, rfl, w0, _, rfl, SqL.of (g1.lst hw), fun q2 hq2 => ?_⟩
    have ec : cutV (nv a.caps) (some ((i : Int) + 1)) none = nv (a.caps.drop (i + 1)) := by
      rw [show (i : Int) + 1 = ((i + 1 : Nat) : Int) by omega, cut_a, nv_drop]
    rw [ec]
    have g2 := g1.new (o := .lst (nv (a.caps.drop (i + 1)))) hq2
    have q12 : q1 ≠ q2 := fun z => by rw [← z, upd_same] at hq2; cases hq2
    refine ⟨q1, q2, _, _, rfl, rfl, (by rw [upd_ne q12, upd_same]), upd_same, (by rw [nv_length, nv_length, List.length_take, List.length_drop, sizeLine_eq]; omega), fun q3 hq3 => ?_⟩
    have g3 := g2.new (o := .lst (nv (a.caps.take i) ++ nv (a.caps.drop (i + 1)))) hq3
    have hx3 := g3.of hx fun _ => nofun
    have hl : (a.caps.eraseIdx i).length = a.caps.length - 1 := by rw [List.length_eraseIdx, if_pos hi]
    exact ⟨_, rfl, x, C, dx, _, _, rfl, hx3, T.cl, T.nE, sh_each, _, rfl, x, C, dx, _, _, rfl, hx3, T.cl, T.nD, sh_differ,
      q3, a.caps.eraseIdx i, a.each, a.differ, rfl, (by rw [upd_same, erase_cut, nv_append]), (by omega), hG.e1, g3.ok', fun H' g => fin H' (g3.trans g)⟩

/-! ### is_one -/
theorem scI1 : FnScope ["shed", "given", "mushrooms", "i"] ["shed", "given"] (defScope s_call_is_one) := ⟨rfl, rfl, rfl, by decide +kernel, rfl, by decide +kernel, by decide +kernel⟩
theorem ok_call_is_one {f fM fS : Addr} {fd fdM fdS : FuncData} (F : Fun K "call_is_one" "call_is_one" s_call_is_one f fd) (T : Txt K mg C) (DM : Dn K mg "is_mushroom" s_is_mushroom ["shed", "i"] fM fdM) (DS : Dn K mg "spread_of" s_spread_of ["widths", "mushrooms"] fS fdS) :
    FnOk P w K mg base CX0 2 f fd ["shed", "given"] (spC C Tt 11) := by
  have GM : FnOk P w K mg base CX0 1 fM fdM ["shed", "i"] (spIsM C) := ok_is_mushroom DM.fn T
  have GS : FnOk P w K mg base CX0 1 fS fdS ["widths", "mushrooms"] (spSpread Tt) := ok_spread_of DS.fn T
  refine F.ok scI1 spC_len (fun cdv A outer s H vs Q E hr h => ?_)
  obtain ⟨x, g, gl, c, st, rfl, hreq, hg, hsh, hs, hT, fin⟩ := h
  obtain ⟨a, rfl⟩ := some_of (hs (by decide))
  cases hreq with
  | isOne r hr30 =>
    refine ⟨_, pss_cons (ps_set (i := 2) scI1.nd rfl (Or.inl rfl) (pe_slice sl_list (pv 1) (po_some pe_int) po_none))
      (pss_cons (ps_for PassesOwn.never rfl (pi_list (pv 2)) (pg_name (i := 3) scI1.nd rfl (Or.inl rfl))
        (pss_one (ps_if (pt_not (pt_val (pe_call GM hr rfl DM.mg_ DM.fn.kp DM.bd .nil pass0 (pa_cons (pv 0) (pa_cons (pv 3) pa_nil))))) (pss_one (ps_ret (pe_lst (pa_cons (pe_gi rfl T.cNot) pa_nil)))) pss_nil)))
      (pss_cons (ps_if (PW.pt (pw_or (pt_cmpR op_ne (pe_callB call_len_seq rfl T.len PySem.boot_len (pa_cons (pv 2) pa_nil)) (pe_fld (pv 0) rfl) (nomark _))
          (pw_or1 (pt_cmpR op_ne (pe_callB call_len_setT rfl T.len PySem.boot_len (pa_cons (pe_callTy (cr_set rfl) rfl T.set_ boot_set (pa_cons (pv 2) pa_nil)) pa_nil)) (pe_callB call_len_seq rfl T.len PySem.boot_len (pa_cons (pv 2) pa_nil)) (nomark _)))))
        (pss_one (ps_ret (pe_lst (pa_cons pe_int pa_nil)))) pss_nil)
      (pss_cons (ps_if (pt_cmpR op_gt (pe_call GS hr rfl DS.mg_ DS.fn.kp DS.bd .nil pass0 (pa_cons (pe_fld (pv 0) rfl) (pa_cons (pv 2) pa_nil))) (pe_fld (pv 0) rfl) (nomark _)) (pss_one (ps_ret (pe_lst (pa_cons pe_int pa_nil)))) pss_nil)
      (pss_one (ps_ret (pe_lst (pa_cons pe_int pa_nil))))))), ?_⟩
    refine ⟨_, rfl, _, rfl, g, _, rfl, SqL.of hg, fun q hq => ?_⟩
    have ec : cutV (((r.length : Int) :: r.map Int.ofNat).map V.int) (some 1) none = nv r := by
      rw [nv_ints]
      exact cut_a _ 1
    rw [ec]
    have g1 : Go Tt none H (upd H q (.lst (nv r))) := (Go.refl hT).new hq
    have hq1 : upd H q (.lst (nv r)) q = some (.lst (nv r)) := upd_same
    have hsh1 := ShedIs.go hsh g1
    have ed : doing (some a) (.isOne r) = if (r.all fun i => decide (i < a.caps.length)) = false then (some a, say (-22)) else (some a, say (if Kh366.isOne a r then 1 else 0)) := rfl
    refine ⟨_, rfl, q, rfl, ⟨_, SqL.of hq1⟩, for_list (xs := nv r) (fun j σ H' => ∃ iv : Option V, σ = [some (.ref x), some (.ref g), some (.ref q), iv] ∧ H' = upd H q (.lst (nv r)) ∧ ∀ m n, m < j → r[m]? = some n → n < a.caps.length)
      ⟨none, rfl, rfl, fun m n hm => absurd hm (Nat.not_lt_zero _)⟩ (fun j σ H' _ ⟨_, _, e, _⟩ => by rw [e]; exact SqL.of hq1) ?_ ?_⟩
    · rintro j y σ H' hy ⟨iv, rfl, rfl, hno⟩
      rw [nv_get] at hy
      cases en : r[j]? with
      | none => rw [en] at hy; cases hy
      | some n =>
        rw [en] at hy
        cases hy
        refine ⟨_, rfl, _, rfl, x, a, n, rfl, hsh1.1, _, rfl, ?_⟩
        by_cases hn : n < a.caps.length
        · rw [decide_eq_true hn]
          refine iteF ⟨_, rfl, rfl, fun m n' hm e => ?_⟩
          by_cases z : m = j
          · subst z
            rw [en] at e
            cases e
            exact hn
          · exact hno m n' (by omega) e
        · rw [decide_eq_false hn]
          rw [ed, if_pos (by rw [List.all_eq_false]; exact ⟨n, List.mem_of_getElem? en, fun z => hn (of_decide_eq_true z)⟩)] at fin
          exact iteT ⟨(by show 1 ≤ sizeLine; decide), fun q' hq' => answer_new (s := some a) (r := (some a, say (-22))) fin g1.weak hsh1 hq' rfl⟩
    · rintro σ H' ⟨iv, rfl, rfl, hall⟩
      have hin : ∀ i ∈ r, i < a.caps.length := fun i hi => by
        obtain ⟨m, hm⟩ := List.getElem?_of_mem hi
        exact hall m i (by rw [nv_length]; exact (List.getElem?_eq_some_iff.mp hm).1) hm
      have hallb : (r.all fun i => decide (i < a.caps.length)) = true := List.all_eq_true.mpr fun i hi => decide_eq_true (hin i hi)
      rw [ed, if_neg (by rw [hallb]; exact Bool.noConfusion)] at fin
      have hG := hsh.2
      obtain ⟨dx, w0, u0, ts, hx, hw, hu, hts⟩ := hsh1.1
      have no : Kh366.isOne a r = false → ∀ (H2 : Hp), Go Tt none H H2 → ∀ q', H2 q' = none → Q (.ref q') (upd H2 q' (.lst [.int 0])) := fun hf H2 g2 q' hq' => by
        rw [hf] at fin
        exact answer_new (s := some a) (r := (some a, say 0)) fin g2.weak (ShedIs.go hsh g2) hq' rfl
      refine ⟨_, rfl, q, _, rfl, .inl (SqL.of hq1), _, rfl, x, C, dx, _, _, rfl, hx, T.cl, T.nE, sh_each, rfl, _, rfl, ?_⟩
      rw [nv_length, dec_nn]
      by_cases hlen : r.length = a.each
      · rw [decide_eq_true hlen]
        have hqi : upd H q (.lst (nv r)) q = some (.lst ((r.map Int.ofNat).map V.int)) := by rw [upd_same, nv_ints]
        refine iteF ⟨_, rfl, q, r.map Int.ofNat, rfl, SqL.of hqi, (by rw [List.length_map]; omega), fun p S hp => ?_⟩
        have g2 := g1.new (o := .set S (distinct (r.map Int.ofNat))) hp
        have hq2 : upd (upd H q (.lst (nv r))) p (.set S (distinct (r.map Int.ofNat))) q = some (.lst (nv r)) := by rw [upd_ne (ne_of_none hq1 hp)]; exact hq1
        have sh2 := ShedIs.go hsh g2
        refine ⟨p, S, _, rfl, upd_same, _, rfl, q, _, rfl, .inl (SqL.of hq2), rfl, _, rfl, ?_⟩
        rw [nv_length, dec_nn]
        have hd := distinct_all (r.map Int.ofNat)
        rw [List.length_map, nodup_ofNat] at hd
        by_cases hnd : distinct (r.map Int.ofNat) = r.length
        · rw [decide_eq_true hnd]
          have nd := hd.mp hnd
          refine iteF ?_
          obtain ⟨dx2, w2, u2, ts2, hx2, hw2, hu2, hts2⟩ := sh2.1
          have e1 := hG.e1
          refine ⟨_, rfl, x, C, dx2, _, _, rfl, hx2, T.cl, T.nW, sh_widths, _, rfl, w2, q, a.caps, r, rfl, hw2, hq2, hin, (by omega), (by omega), g2.ok', fun H4 g4 => ?_⟩
          have g24 := g2.trans g4
          refine ⟨_, rfl, x, C, dx2, _, _, rfl, g4.of hx2 fun _ => nofun, T.cl, T.nD, sh_differ, _, _, rfl, rfl, _, rfl, ?_⟩
          have one : Kh366.isOne a r = decide (spread a r ≤ a.differ) := by
            unfold Kh366.isOne
            rw [decide_eq_true hlen, decide_eq_true nd, hallb, Bool.true_and, Bool.true_and, Bool.true_and]
          refine ite2 (fun hlt => ?_) (fun hge => ?_)
          · have hlt' : a.differ < spr a.caps r := by have := of_decide_eq_true hlt; omega
            exact ⟨(by show 1 ≤ sizeLine; decide), no (by rw [one, spr_eq]; exact decide_eq_false (by omega)) H4 g24⟩
          · have hge' : spr a.caps r ≤ a.differ := by
              have : ¬ ((a.differ : Int) < ((spr a.caps r : Nat) : Int)) := fun z => hge (decide_eq_true z)
              omega
            have ho : Kh366.isOne a r = true := by rw [one, spr_eq]; exact decide_eq_true hge'
            rw [ho] at fin
            exact ⟨(by show 1 ≤ sizeLine; decide), fun q' hq' => answer_new (s := some a) (r := (some a, say 1)) fin g24.weak (ShedIs.go hsh g24) hq' rfl⟩
        · rw [decide_eq_false hnd]
          have nd : ¬ r.Nodup := fun z => hnd (hd.mpr z)
          exact iteT ⟨(by show 1 ≤ sizeLine; decide), no (by unfold Kh366.isOne; rw [decide_eq_false nd, Bool.false_and, Bool.and_false]) _ g2⟩
      · rw [decide_eq_false hlen]
        exact iteT (iteT ⟨(by show 1 ≤ sizeLine; decide), no (by unfold Kh366.isOne; rw [decide_eq_false hlen, Bool.false_and]) _ g1⟩)
end
end Mush

namespace Mush
open PySem PySem.Spec PyProof.Rows L2 Kh366
section
variable {P : Program} {w : World} {K : PySem.W.Frag} {mg : Str → Option Value} {base : Heap} {C : Addr} {Tt : Tb}

/-! ### spread -/
theorem scSp : FnScope ["shed", "given", "p", "punnets"] ["shed", "given"] (defScope s_call_spread) := ⟨rfl, rfl, rfl, by decide +kernel, rfl, by decide +kernel, by decide +kernel⟩
theorem ok_call_spread {f fP fS : Addr} {fd fdP fdS : FuncData} {k : Nat} (F : Fun K "call_spread" "call_spread" s_call_spread f fd) (T : Txt K mg C) (DS : Dn K mg "spread_of" s_spread_of ["widths", "mushrooms"] fS fdS) (DP : Dn K mg "packed_in" s_packed_in ["shed"] fP fdP) (GP : FnOk P w K mg base CX0 (k + 1) fP fdP ["shed"] (spPackedIn C Tt)) :
    FnOk P w K mg base CX0 (k + 2) f fd ["shed", "given"] (spC C Tt 12) := by
  have GS : FnOk P w K mg base CX0 1 fS fdS ["widths", "mushrooms"] (spSpread Tt) := ok_spread_of DS.fn T
  refine F.ok scSp spC_len (fun cdv A outer s H vs Q E hr h => ?_)
  obtain ⟨x, g, gl, c, st, rfl, hreq, hg, hsh, hs, hT, fin⟩ := h
  obtain ⟨a, rfl⟩ := some_of (hs (by decide))
  have hr1 : Room 1 _ := hr.mono (by omega)
  cases hreq with
  | spread n =>
    refine ⟨_, pss_cons (ps_set (i := 2) scSp.nd rfl (Or.inl rfl) (pe_ix ix_list (pv 1) pe_int (fun _ _ => rfl)))
      (pss_cons (ps_set (i := 3) scSp.nd rfl (Or.inl rfl) (pe_call GP hr rfl DP.mg_ DP.fn.kp DP.bd .nil pass0 (pa_cons (pv 0) pa_nil)))
      (pss_cons (ps_if (pt_cmpR op_ge (pv 2) (pe_callB call_len_seq rfl T.len PySem.boot_len (pa_cons (pv 3) pa_nil)) (nomark _)) (pss_one (ps_ret (pe_lst (pa_cons (pe_gi rfl T.cPun) pa_nil)))) pss_nil)
      (pss_one (ps_ret (pe_lst (pa_cons (pe_call GS hr1 rfl DS.mg_ DS.fn.kp DS.bd .nil pass0 (pa_cons (pe_fld (pv 0) rfl) (pa_cons (pe_ix ix_list (pv 3) (pv 2) (fun _ _ => rfl)) pa_nil))) pa_nil)))))), ?_⟩
    refine ⟨_, rfl, g, _, _, _, rfl, rfl, SqL.of hg, atI_nat (j := 0) rfl, _, rfl, x, a, rfl, hsh.1, hsh.2, hT, fun H1 p ps g1 np hp pp => ?_⟩
    refine ⟨_, rfl, _, rfl, p, _, rfl, .inl (SqL.of hp), _, _, rfl, rfl, _, rfl, ?_⟩
    have pl : ps.length = (punnets a).length := Paired.length pp
    rw [List.length_map, pl, show decide (((punnets a).length : Int) ≤ (n : Int)) = decide ((punnets a).length ≤ n) from decide_eq_decide.mpr (by omega)]
    have ed : doing (some a) (.spread n) = (match (punnets a)[n]? with | none => (some a, say (-33)) | some l => (some a, say (Kh366.spread a l))) := rfl
    by_cases hn : (punnets a).length ≤ n
    · rw [decide_eq_true hn]
      rw [ed, List.getElem?_eq_none hn] at fin
      exact iteT ⟨(by show 1 ≤ sizeLine; decide), fun q hq => answer_new (s := some a) (r := (some a, say (-33))) fin g1.weak (ShedIs.go hsh g1) hq rfl⟩
    · rw [decide_eq_false hn]
      obtain ⟨l, hl⟩ : ∃ l, (punnets a)[n]? = some l := ⟨_, List.getElem?_eq_getElem (by omega)⟩
      obtain ⟨t, ht, htl⟩ := Paired.at2 pp hl
      rw [ed, hl] at fin
      have atn : atI (ps.map V.ref) (n : Int) = some (.ref t) := atI_nat (by rw [List.getElem?_map, ht]; rfl)
      obtain ⟨m1, m2, m3⟩ := punnets_mem hsh.2.e1 (List.mem_of_getElem? hl)
      have e1 := hsh.2.e1
      have e6 := hsh.2.e6
      obtain ⟨dx, w0, u0, ts, hx, hw, hu, hts⟩ := ShedAt.go hsh.1 g1
      refine iteF ⟨_, rfl, x, C, dx, _, _, rfl, hx, T.cl, T.nW, sh_widths, _, rfl, _, rfl, p, _, _, _, rfl, rfl, SqL.of hp, atn, w0, t, a.caps, l, rfl, hw, htl, fun i hi => (inTurn_mem a.caps).mp (m1.subset hi), (by omega), (by omega), g1.ok', fun H2 g2 => ⟨(by show 1 ≤ sizeLine; decide), fun q hq => ?_⟩⟩
      have g12 := g1.trans g2
      exact answer_new (s := some a) (r := (some a, say (Kh366.spread a l))) fin g12.weak (ShedIs.go hsh g12) hq rfl

/-! ### if_differ, if_each -/
theorem scFd : FnScope ["shed", "given", "differ"] ["shed", "given"] (defScope s_call_if_differ) := ⟨rfl, rfl, rfl, by decide +kernel, rfl, by decide +kernel, by decide +kernel⟩
theorem ok_call_if_differ {f fD fH : Addr} {fd fdD fdH : FuncData} {k : Nat} (F : Fun K "call_if_differ" "call_if_differ" s_call_if_differ f fd) (T : Txt K mg C) (DD : Dn K mg "is_differ" s_is_differ ["differ"] fD fdD) (DH : Dn K mg "how_many" s_how_many ["widths", "each", "differ"] fH fdH)
    (GH : FnOk P w K mg base CX0 (k + 1) fH fdH ["widths", "each", "differ"] (spHow Tt)) : FnOk P w K mg base CX0 (k + 2) f fd ["shed", "given"] (spC C Tt 13) := by
  have GD : FnOk P w K mg base CX0 1 fD fdD ["differ"] (spBt 0 50) := ok_is_differ DD.fn T
  refine F.ok scFd spC_len (fun cdv A outer s H vs Q E hr h => ?_)
  obtain ⟨x, g, gl, c, st, rfl, hreq, hg, hsh, hs, hT, fin⟩ := h
  obtain ⟨a, rfl⟩ := some_of (hs (by decide))
  have hr1 : Room 1 _ := hr.mono (by omega)
  cases hreq with
  | ifDiffer d =>
    refine ⟨_, pss_cons (ps_set (i := 2) scFd.nd rfl (Or.inl rfl) (pe_ix ix_list (pv 1) pe_int (fun _ _ => rfl)))
      (pss_cons (ps_if (pt_not (pt_val (pe_call GD hr1 rfl DD.mg_ DD.fn.kp DD.bd .nil pass0 (pa_cons (pv 2) pa_nil)))) (pss_one (ps_ret (pe_lst (pa_cons (pe_gi rfl T.cNot) pa_nil)))) pss_nil)
      (pss_one (ps_ret (pe_lst (pa_cons (pe_call GH hr rfl DH.mg_ DH.fn.kp DH.bd .nil pass0 (pa_cons (pe_fld (pv 0) rfl) (pa_cons (pe_fld (pv 0) rfl) (pa_cons (pv 2) pa_nil)))) pa_nil))))), ?_⟩
    refine ⟨_, rfl, g, _, _, _, rfl, rfl, SqL.of hg, atI_nat (j := 0) rfl, ?_⟩
    have ed : doing (some a) (.ifDiffer d) = if DIFFER < d then (some a, say (-22)) else (some a, say (countBy a.each d a.caps)) := rfl
    refine ⟨_, rfl, _, rfl, _, rfl, ?_⟩
    rw [bD]
    by_cases hd : DIFFER < d
    · rw [decide_eq_true hd]
      rw [ed, if_pos hd] at fin
      exact iteT ⟨(by show 1 ≤ sizeLine; decide), fun q hq => answer_new (s := some a) (r := (some a, say (-22))) fin (Go.refl hT) hsh hq rfl⟩
    · rw [decide_eq_false hd]
      rw [ed, if_neg hd] at fin
      obtain ⟨⟨dx, w0, u0, ts, hx, hw, hu, hts⟩, hG⟩ := id hsh
      have c24 := hG.c24
      refine iteF ⟨_, rfl, x, C, dx, _, _, rfl, hx, T.cl, T.nW, sh_widths, _, rfl, x, C, dx, _, _, rfl, hx, T.cl, T.nE, sh_each, _, rfl, w0, a.caps, a.each, d, rfl, hw, (by omega), hG.e1, hT, fun H1 g1 => ⟨(by show 1 ≤ sizeLine; decide), fun q hq => ?_⟩⟩
      exact answer_new (s := some a) (r := (some a, say (countBy a.each d a.caps))) fin g1.weak (ShedIs.go hsh g1) hq rfl
theorem scFe : FnScope ["shed", "given", "each"] ["shed", "given"] (defScope s_call_if_each) := ⟨rfl, rfl, rfl, by decide +kernel, rfl, by decide +kernel, by decide +kernel⟩
theorem ok_call_if_each {f fE fH : Addr} {fd fdE fdH : FuncData} {k : Nat} (F : Fun K "call_if_each" "call_if_each" s_call_if_each f fd) (T : Txt K mg C) (DE : Dn K mg "is_each" s_is_each ["each"] fE fdE) (DH : Dn K mg "how_many" s_how_many ["widths", "each", "differ"] fH fdH)
    (GH : FnOk P w K mg base CX0 (k + 1) fH fdH ["widths", "each", "differ"] (spHow Tt)) : FnOk P w K mg base CX0 (k + 2) f fd ["shed", "given"] (spC C Tt 14) := by
  have GE : FnOk P w K mg base CX0 1 fE fdE ["each"] (spBt 1 6) := ok_is_each DE.fn T
  refine F.ok scFe spC_len (fun cdv A outer s H vs Q E hr h => ?_)
  obtain ⟨x, g, gl, c, st, rfl, hreq, hg, hsh, hs, hT, fin⟩ := h
  obtain ⟨a, rfl⟩ := some_of (hs (by decide))
  have hr1 : Room 1 _ := hr.mono (by omega)
  cases hreq with
  | ifEach e =>
    refine ⟨_, pss_cons (ps_set (i := 2) scFe.nd rfl (Or.inl rfl) (pe_ix ix_list (pv 1) pe_int (fun _ _ => rfl)))
      (pss_cons (ps_if (pt_not (pt_val (pe_call GE hr1 rfl DE.mg_ DE.fn.kp DE.bd .nil pass0 (pa_cons (pv 2) pa_nil)))) (pss_one (ps_ret (pe_lst (pa_cons (pe_gi rfl T.cNot) pa_nil)))) pss_nil)
      (pss_one (ps_ret (pe_lst (pa_cons (pe_call GH hr rfl DH.mg_ DH.fn.kp DH.bd .nil pass0 (pa_cons (pe_fld (pv 0) rfl) (pa_cons (pv 2) (pa_cons (pe_fld (pv 0) rfl) pa_nil)))) pa_nil))))), ?_⟩
    refine ⟨_, rfl, g, _, _, _, rfl, rfl, SqL.of hg, atI_nat (j := 0) rfl, ?_⟩
    have ed : doing (some a) (.ifEach e) = if okEach e = false then (some a, say (-22)) else (some a, say (countBy e a.differ a.caps)) := rfl
    refine ⟨_, rfl, _, rfl, _, rfl, ?_⟩
    rw [bE]
    cases hk : okEach e with
    | false =>
      rw [ed, if_pos hk] at fin
      exact iteT ⟨(by show 1 ≤ sizeLine; decide), fun q hq => answer_new (s := some a) (r := (some a, say (-22))) fin (Go.refl hT) hsh hq rfl⟩
    | true =>
      rw [ed, if_neg (by rw [hk]; exact Bool.noConfusion)] at fin
      obtain ⟨⟨dx, w0, u0, ts, hx, hw, hu, hts⟩, hG⟩ := id hsh
      have c24 := hG.c24
      refine iteF ⟨_, rfl, x, C, dx, _, _, rfl, hx, T.cl, T.nW, sh_widths, _, rfl, _, rfl, x, C, dx, _, _, rfl, hx, T.cl, T.nD, sh_differ, w0, a.caps, e, a.differ, rfl, hw, (by omega), (okE_of hk).1, hT, fun H1 g1 => ⟨(by show 1 ≤ sizeLine; decide), fun q hq => ?_⟩⟩
      exact answer_new (s := some a) (r := (some a, say (countBy e a.differ a.caps))) fin g1.weak (ShedIs.go hsh g1) hq rfl

/-! ### least -/
theorem scLs : FnScope ["shed", "given", "wanted", "differ"] ["shed", "given"] (defScope s_call_least) := ⟨rfl, rfl, rfl, by decide +kernel, rfl, by decide +kernel, by decide +kernel⟩
theorem ok_call_least {f fH : Addr} {fd fdH : FuncData} {k : Nat} (F : Fun K "call_least" "call_least" s_call_least f fd) (T : Txt K mg C) (DH : Dn K mg "how_many" s_how_many ["widths", "each", "differ"] fH fdH)
    (GH : FnOk P w K mg base CX0 k fH fdH ["widths", "each", "differ"] (spHow Tt)) : FnOk P w K mg base CX0 (k + 1) f fd ["shed", "given"] (spC C Tt 15) := by
  refine F.ok scLs spC_len (fun cdv A outer s H vs Q E hr h => ?_)
  obtain ⟨x, g, gl, c, st, rfl, hreq, hg, hsh, hs, hT, fin⟩ := h
  obtain ⟨a, rfl⟩ := some_of (hs (by decide))
  cases hreq with
  | least n =>
    refine ⟨_, pss_cons (ps_set (i := 2) scLs.nd rfl (Or.inl rfl) (pe_ix ix_list (pv 1) pe_int (fun _ _ => rfl)))
      (pss_cons (ps_if (pt_cmpR op_gt (pv 2) (pe_gi rfl T.mMush) (nomark _)) (pss_one (ps_ret (pe_lst (pa_cons (pe_gi rfl T.cNot) pa_nil)))) pss_nil)
      (pss_cons (ps_for PassesOwn.never rfl (pi_range1 rfl T.range (pa_cons (pe_op op_add (pe_gi rfl T.mAsk) pe_int) pa_nil)) (pg_name (i := 3) scLs.nd rfl (Or.inl rfl))
        (pss_one (ps_if (pt_cmpR op_ge (pe_call GH hr rfl DH.mg_ DH.fn.kp DH.bd .nil pass0 (pa_cons (pe_fld (pv 0) rfl) (pa_cons (pe_fld (pv 0) rfl) (pa_cons (pv 3) pa_nil)))) (pv 2) (nomark _)) (pss_one (ps_ret (pe_lst (pa_cons (pv 3) pa_nil)))) pss_nil)))
      (pss_one (ps_ret (pe_lst (pa_cons (pe_gi rfl T.cDif) pa_nil)))))), ?_⟩
    refine ⟨_, rfl, g, _, _, _, rfl, rfl, SqL.of hg, atI_nat (j := 0) rfl, _, rfl, _, _, rfl, rfl, _, rfl, ?_⟩
    have ed : doing (some a) (.least n) = if CAPS < n then (some a, say (-22)) else (match Kh366.least a n with | none => (some a, say (-33)) | some d => (some a, say d)) := rfl
    refine ite2 (fun hbig => ?_) (fun hsmall => ?_)
    · have hb : CAPS < n := by have := of_decide_eq_true hbig; unfold CAPS; omega
      rw [ed, if_pos hb] at fin
      exact ⟨(by show 1 ≤ sizeLine; decide), fun q hq => answer_new (s := some a) (r := (some a, say (-22))) fin (Go.refl hT) hsh hq rfl⟩
    · have hb : ¬ CAPS < n := fun z => hsmall (decide_eq_true (by unfold CAPS at z; omega))
      rw [ed, if_neg hb] at fin
      have hG := hsh.2
      have c24 := hG.c24
      refine ⟨_, _, rfl, rfl, _, rfl, (by decide), (by decide), for_range (n := 101) (fun i σ H' => ∃ dv : Option V, σ = [some (.ref x), some (.ref g), some (.int n), dv] ∧ Go Tt none H H' ∧ ∀ j, j < i → countBy a.each j a.caps < n) ⟨none, rfl, Go.refl hT, fun j hj => absurd hj (Nat.not_lt_zero _)⟩ ?_ ?_⟩
      · rintro i σ H' hi ⟨dv, rfl, g', hno⟩
        obtain ⟨dx, w0, u0, ts, hx, hw, hu, hts⟩ := ShedAt.go hsh.1 g'
        refine ⟨_, rfl, x, C, dx, _, _, rfl, hx, T.cl, T.nW, sh_widths, _, rfl, x, C, dx, _, _, rfl, hx, T.cl, T.nE, sh_each, _, rfl, w0, a.caps, a.each, i, (by rw [Int.zero_add]; rfl), hw, (by omega), hG.e1, g'.ok', fun H1 g1 => ⟨_, rfl, _, _, rfl, rfl, _, rfl, ?_⟩⟩
        have g2 := g'.trans g1
        refine ite2 (fun hge => ?_) (fun hlt => ?_)
        · have hge' : n ≤ countBy a.each i a.caps := by have := of_decide_eq_true hge; omega
          rw [least_some (by omega) hge' hno] at fin
          refine ⟨_, rfl, (by show 1 ≤ sizeLine; decide), fun q hq => answer_new (s := some a) (r := (some a, say i)) fin g2.weak (ShedIs.go hsh g2) hq ?_⟩
          rw [Int.zero_add]
          rfl
        · refine ⟨_, rfl, g2, fun j hj => ?_⟩
          by_cases z : j = i
          · subst z
            have : ¬ ((n : Int) ≤ ((countBy a.each j a.caps : Nat) : Int)) := fun z => hlt (decide_eq_true z)
            omega
          · exact hno j (by omega)
      · rintro σ H' ⟨dv, rfl, g', hno⟩
        rw [least_none fun j hj => hno j (by omega)] at fin
        exact ⟨(by show 1 ≤ sizeLine; decide), fun q hq => answer_new (s := some a) (r := (some a, say (-33))) fin g'.weak (ShedIs.go hsh g') hq rfl⟩

/-! ### more -/
theorem scMr : FnScope ["shed", "given", "width"] ["shed", "given"] (defScope s_call_more) := ⟨rfl, rfl, rfl, by decide +kernel, rfl, by decide +kernel, by decide +kernel⟩
theorem ok_call_more {f fW fH : Addr} {fd fdW fdH : FuncData} {k : Nat} (F : Fun K "call_more" "call_more" s_call_more f fd) (T : Txt K mg C) (DW : Dn K mg "is_width" s_is_width ["width"] fW fdW) (DH : Dn K mg "how_many_with" s_how_many_with ["shed", "width"] fH fdH)
    (GH : FnOk P w K mg base CX0 (k + 1) fH fdH ["shed", "width"] (spWith C Tt)) : FnOk P w K mg base CX0 (k + 2) f fd ["shed", "given"] (spC C Tt 16) := by
  have GW : FnOk P w K mg base CX0 1 fW fdW ["width"] (spBt 1 100) := ok_is_width DW.fn T
  refine F.ok scMr spC_len (fun cdv A outer s H vs Q E hr h => ?_)
  obtain ⟨x, g, gl, c, st, rfl, hreq, hg, hsh, hs, hT, fin⟩ := h
  obtain ⟨a, rfl⟩ := some_of (hs (by decide))
  have hr1 : Room 1 _ := hr.mono (by omega)
  cases hreq with
  | more wd =>
    refine ⟨_, pss_cons (ps_set (i := 2) scMr.nd rfl (Or.inl rfl) (pe_ix ix_list (pv 1) pe_int (fun _ _ => rfl)))
      (pss_cons (ps_if (pt_not (pt_val (pe_call GW hr1 rfl DW.mg_ DW.fn.kp DW.bd .nil pass0 (pa_cons (pv 2) pa_nil)))) (pss_one (ps_ret (pe_lst (pa_cons (pe_gi rfl T.cNot) pa_nil)))) pss_nil)
      (pss_one (ps_ret (pe_lst (pa_cons (pe_call GH hr rfl DH.mg_ DH.fn.kp DH.bd .nil pass0 (pa_cons (pv 0) (pa_cons (pv 2) pa_nil))) pa_nil))))), ?_⟩
    refine ⟨_, rfl, g, _, _, _, rfl, rfl, SqL.of hg, atI_nat (j := 0) rfl, ?_⟩
    have ed : doing (some a) (.more wd) = if okWide wd = false then (some a, say (-22)) else (some a, say (countBy a.each a.differ (a.caps ++ [wd]))) := rfl
    refine ⟨_, rfl, _, rfl, _, rfl, ?_⟩
    rw [bW]
    cases hk : okWide wd with
    | false =>
      rw [ed, if_pos hk] at fin
      exact iteT ⟨(by show 1 ≤ sizeLine; decide), fun q hq => answer_new (s := some a) (r := (some a, say (-22))) fin (Go.refl hT) hsh hq rfl⟩
    | true =>
      rw [ed, if_neg (by rw [hk]; exact Bool.noConfusion)] at fin
      refine iteF ⟨_, rfl, _, rfl, x, a, wd, rfl, hsh.1, hsh.2, hT, fun H1 g1 => ⟨(by show 1 ≤ sizeLine; decide), fun q hq => ?_⟩⟩
      exact answer_new (s := some a) (r := (some a, say (countBy a.each a.differ (a.caps ++ [wd])))) fin g1.weak (ShedIs.go hsh g1) hq rfl

/-! ### best_more -/
theorem scBm : FnScope ["shed", "given", "best", "most", "width", "come"] ["shed", "given"] (defScope s_call_best_more) := ⟨rfl, rfl, rfl, by decide +kernel, rfl, by decide +kernel, by decide +kernel⟩
theorem ok_call_best_more {f fH : Addr} {fd fdH : FuncData} {k : Nat} (F : Fun K "call_best_more" "call_best_more" s_call_best_more f fd) (T : Txt K mg C) (DH : Dn K mg "how_many_with" s_how_many_with ["shed", "width"] fH fdH)
    (GH : FnOk P w K mg base CX0 k fH fdH ["shed", "width"] (spWith C Tt)) : FnOk P w K mg base CX0 (k + 1) f fd ["shed", "given"] (spC C Tt 17) := by
  refine F.ok scBm spC_len (fun cdv A outer s H vs Q E hr h => ?_)
  obtain ⟨x, g, gl, c, st, rfl, hreq, hg, hsh, hs, hT, fin⟩ := h
  obtain ⟨a, rfl⟩ := some_of (hs (by decide))
  cases hreq with
  | bestMore =>
    refine ⟨_, pss_cons (ps_set (i := 2) scBm.nd rfl (Or.inl rfl) pe_int)
      (pss_cons (ps_set (i := 3) scBm.nd rfl (Or.inl rfl) (pe_call GH hr rfl DH.mg_ DH.fn.kp DH.bd .nil pass0 (pa_cons (pv 0) (pa_cons (pv 2) pa_nil))))
      (pss_cons (ps_for PassesOwn.never rfl (pi_range2 rfl T.range (pa_cons pe_int (pa_cons (pe_op op_add (pe_gi rfl T.mWide) pe_int) pa_nil))) (pg_name (i := 4) scBm.nd rfl (Or.inl rfl))
        (pss_cons (ps_set (i := 5) scBm.nd rfl (Or.inl rfl) (pe_call GH hr rfl DH.mg_ DH.fn.kp DH.bd .nil pass0 (pa_cons (pv 0) (pa_cons (pv 4) pa_nil))))
        (pss_one (ps_if (pt_cmpR op_gt (pv 5) (pv 3) (nomark _)) (pss_cons (ps_set (i := 2) scBm.nd rfl (Or.inl rfl) (pv 4)) (pss_one (ps_set (i := 3) scBm.nd rfl (Or.inl rfl) (pv 5)))) pss_nil))))
      (pss_one (ps_ret (pe_lst (pa_cons (pv 2) (pa_cons (pv 3) pa_nil))))))), ?_⟩
    refine ⟨_, rfl, _, rfl, x, a, 1, rfl, hsh.1, hsh.2, hT, fun H1 g1 => ?_⟩
    have one : ∀ v, 1 ≤ v → v ≤ 0 + 1 → withMore a v ≤ withMore a 1 := fun v h1 h2 => by
      have e : v = 1 := by omega
      rw [e]
      exact Nat.le_refl _
    refine ⟨_, _, rfl, rfl, _, _, rfl, ⟨by decide, by decide, by decide, by decide⟩, for_range (n := 99) (fun i σ H' => ∃ (b : Nat) (wv cv : Option V), σ = [some (.ref x), some (.ref g), some (.int b), some (.int ((withMore a b : Nat) : Int)), wv, cv] ∧ Go Tt none H H' ∧ 1 ≤ b ∧ b ≤ i + 1 ∧
        (∀ v, 1 ≤ v → v ≤ i + 1 → withMore a v ≤ withMore a b) ∧ ∀ v, 1 ≤ v → v < b → withMore a v < withMore a b)
      ⟨1, none, none, rfl, g1, Nat.le_refl _, Nat.le_refl _, one, fun v h1 h2 => (by omega)⟩ ?_ ?_⟩
    · rintro i σ H' hi ⟨b, wv, cv, rfl, g', b1, b2, h3, h4⟩
      refine ⟨_, rfl, _, rfl, x, a, i + 2, (by rw [show (2 : Int) + (i : Int) = ((i + 2 : Nat) : Int) by omega]; rfl), ShedAt.go hsh.1 g', hsh.2, g'.ok', fun H2 g2 => ?_⟩
      have gg := g'.trans g2
      refine ⟨_, rfl, _, rfl, _, _, rfl, rfl, _, rfl, ?_⟩
      refine ite2 (fun hlt => ?_) (fun hge => ?_)
      · have hlt' : withMore a b < withMore a (i + 2) := by have := of_decide_eq_true hlt; omega
        refine ⟨_, rfl, _, rfl, i + 2, some (V.int ((i + 2 : Nat) : Int)), some (V.int ((withMore a (i + 2) : Nat) : Int)), ?_, gg, by omega, by omega, fun v v1 v2 => ?_, fun v v1 v2 => ?_⟩
        · show [some (V.ref x), some (V.ref g), some (V.int ((2 : Int) + (i : Int))), some (V.int ((withMore a (i + 2) : Nat) : Int)), some (V.int ((2 : Int) + (i : Int))), some (V.int ((withMore a (i + 2) : Nat) : Int))] = _
          rw [show (2 : Int) + (i : Int) = ((i + 2 : Nat) : Int) by omega]
        · by_cases z : v = i + 2
          · subst z; exact Nat.le_refl _
          · have := h3 v v1 (by omega)
            omega
        · have := h3 v v1 (by omega)
          omega
      · have hge' : withMore a (i + 2) ≤ withMore a b := by
          have : ¬ (((withMore a b : Nat) : Int) < ((withMore a (i + 2) : Nat) : Int)) := fun z => hge (decide_eq_true z)
          omega
        refine ⟨b, _, _, rfl, gg, b1, by omega, fun v v1 v2 => ?_, h4⟩
        by_cases z : v = i + 2
        · subst z; exact hge'
        · exact h3 v v1 (by omega)
    · rintro σ H' ⟨b, wv, cv, rfl, g', b1, b2, h3, h4⟩
      have e := bestMore_of (a := a) b1 (by omega) (fun v v1 v2 => h3 v v1 (by omega)) h4
      have ed : doing (some a) .bestMore = (some a, ⟨((Kh366.bestMore a).1 : Nat), [(Kh366.bestMore a).2]⟩) := rfl
      rw [ed, e] at fin
      exact ⟨_, rfl, _, rfl, (by show 2 ≤ sizeLine; decide), fun q hq => answer_new (s := some a) (r := (some a, ⟨(b : Nat), [withMore a b]⟩)) fin g'.weak (ShedIs.go hsh g') hq rfl⟩

/-! ### needed -/
theorem scNd : FnScope ["shed", "given", "come", "needed", "i"] ["shed", "given"] (defScope s_call_needed) := ⟨rfl, rfl, rfl, by decide +kernel, rfl, by decide +kernel, by decide +kernel⟩
def neededScope : Scope := match defBody s_call_needed with
  | [_, .Assign _ (.ListComp _ _ sc _) _, _] => sc
  | _ => { kind := .function, names := [], isGenerator := false, isCoroutine := false }
theorem neededBlk : blkC ["shed", "given", "come", "needed", "i"] (defScope s_call_needed) neededScope [("i", 4)] = true := by decide +kernel
/-- who is needed among the first i -/
def need (a : Abs) (i : Nat) : List Nat := (List.range i).filter fun j => decide (Kh366.count (without a j) < Kh366.count a)
theorem need_len (a : Abs) (i : Nat) : (need a i).length ≤ i := by
  have := List.length_filter_le (fun j => decide (Kh366.count (without a j) < Kh366.count a)) (List.range i)
  rw [List.length_range] at this
  exact this
theorem ok_call_needed {f fP fO : Addr} {fd fdP fdO : FuncData} {k : Nat} (F : Fun K "call_needed" "call_needed" s_call_needed f fd) (T : Txt K mg C) (DO : Dn K mg "how_many_without" s_how_many_without ["shed", "i"] fO fdO)
    (GO : FnOk P w K mg base CX0 k fO fdO ["shed", "i"] (spWithout C Tt)) (DP : Dn K mg "packed_in" s_packed_in ["shed"] fP fdP) (GP : FnOk P w K mg base CX0 k fP fdP ["shed"] (spPackedIn C Tt)) : FnOk P w K mg base CX0 (k + 1) f fd ["shed", "given"] (spC C Tt 18) := by
  refine F.ok scNd spC_len (fun cdv A outer s H vs Q E hr h => ?_)
  obtain ⟨x, g, gl, c, st, rfl, hreq, hg, hsh, hs, hT, fin⟩ := h
  obtain ⟨a, rfl⟩ := some_of (hs (by decide))
  cases hreq with
  | needed =>
    refine ⟨_, pss_cons (ps_set (i := 2) scNd.nd rfl (Or.inr rfl) (pe_callB call_len_seq rfl T.len PySem.boot_len (pa_cons (pe_call GP hr rfl DP.mg_ DP.fn.kp DP.bd .nil pass0 (pa_cons (pv 0) pa_nil)) pa_nil)))
      (pss_cons (ps_setLc (i := 3) (own := [("i", 4)]) rfl scNd.nd rfl rfl (sw_true rfl rfl rfl rfl) (pi_range1 rfl T.range (pa_cons (pe_callB call_len_seq rfl T.len PySem.boot_len (pa_cons (pe_fld (pv 0) rfl) pa_nil)) pa_nil)) (blkOk_by neededBlk)
        (fun _ _ _ _ _ => pg_name (i := 4) scNd.nd rfl (Or.inl rfl)) (fun _ _ _ _ _ => pts_one (pt_cmpR op_lt (pe_call GO hr rfl DO.mg_ DO.fn.kp DO.bd .nil pass0 (pa_cons (pv 0) (pa_cons (pv 4) pa_nil))) (pv 2) (nomark _))) (fun _ _ _ _ _ => pv 4))
      (pss_one (ps_ret (pe_op op_cat (pe_lst (pa_cons (pe_callB call_len_seq rfl T.len PySem.boot_len (pa_cons (pv 3) pa_nil)) pa_nil)) (pv 3))))), ?_⟩
    refine ⟨_, rfl, x, a, rfl, hsh.1, hsh.2, hT, fun H1 p ps g1 np hp pp => ⟨p, _, rfl, .inl (SqL.of hp), ?_⟩⟩
    rw [List.length_map, Paired.length pp]
    obtain ⟨dx, w0, u0, ts, hx, hw, hu, hts⟩ := ShedAt.go hsh.1 g1
    have c24 := hsh.2.c24
    have en : (((nv a.caps).length : Nat) : Int).toNat = a.caps.length := by rw [nv_length]; omega
    refine ⟨_, rfl, x, C, dx, _, _, rfl, hx, T.cl, T.nW, sh_widths, w0, _, rfl, .inl (SqL.of hw), _, rfl, (by omega), (by rw [nv_length]; omega), fun D hD => lc_range (lo := 0) (fun i H' => i ≤ a.caps.length ∧ Go Tt none H1 H' ∧ H' D = some (.lst (nv (need a i))))
      ⟨Nat.zero_le _, (Go.refl g1.ok').new hD, upd_same⟩ ?_ ?_⟩
    · rintro i H' hi ⟨hil, g', hD'⟩
      rw [en] at hi
      have pl := need_len a i
      refine ⟨rfl, _, rfl, _, rfl, x, a, i, (by rw [Int.zero_add]; rfl), hi, ShedAt.go hsh.1 (g1.trans g'), hsh.2, g'.ok', fun H2 g2 => ⟨_, rfl, _, _, rfl, rfl, _, rfl, ?_⟩⟩
      have gg := g'.trans g2
      have es : need a (i + 1) = need a i ++ (if Kh366.count (without a i) < Kh366.count a then [i] else []) := by
        unfold need
        rw [List.range_succ, List.filter_append]
        by_cases hc : Kh366.count (without a i) < Kh366.count a
        · rw [if_pos hc, List.filter_cons_of_pos (by exact decide_eq_true hc), List.filter_nil]
        · rw [if_neg hc, List.filter_cons_of_neg (by rw [decide_eq_false hc]; exact Bool.false_ne_true), List.filter_nil]
      refine ite2 (fun hlt => ?_) (fun hge => ?_)
      · have hc : Kh366.count (without a i) < Kh366.count a := by have := of_decide_eq_true hlt; unfold Kh366.count at *; omega
        refine ⟨_, rfl, _, g2.lst hD', (by rw [nv_length, sizeLine_eq]; omega), hi, gg.set (u := .lst (nv (need a i))) (g2.lst hD') (fun _ => nofun) (fun _ => nofun) (.inl hD), ?_⟩
        rw [upd_same, es, if_pos hc, nv_append, Int.zero_add]
        rfl
      · have hc : ¬ Kh366.count (without a i) < Kh366.count a := fun z => hge (decide_eq_true (by unfold Kh366.count at *; omega))
        refine ⟨hi, gg, ?_⟩
        rw [es, if_neg hc, List.append_nil]
        exact g2.lst hD'
    · rintro H' ⟨_, g', hD'⟩
      rw [en] at hD'
      have ll := need_len a a.caps.length
      have gg := g1.trans g'
      refine ⟨_, rfl, D, _, rfl, .inl (SqL.of hD'), (by show 1 ≤ sizeLine; decide), fun q1 hq1 => ?_⟩
      have g2 := gg.new (o := .lst [.int ((nv (need a a.caps.length)).length : Int)]) hq1
      refine ⟨_, rfl, q1, D, _, _, rfl, rfl, upd_same, (by rw [upd_ne (ne_of_none hD' hq1)]; exact hD'), (by rw [nv_length, sizeLine_eq]; simp only [List.length_cons, List.length_nil]; omega), fun q hq => ?_⟩
      refine answer_new (s := some a) (r := (some a, Kh366.list (need a a.caps.length))) fin g2.weak (ShedIs.go hsh g2) hq ?_
      show [V.int ((nv (need a a.caps.length)).length : Int)] ++ nv (need a a.caps.length) = _
      rw [nv_length]
      exact ans_list _

/-! ### order -/
theorem scOd : FnScope ["shed", "given"] ["shed", "given"] (defScope s_call_order) := ⟨rfl, rfl, rfl, by decide +kernel, rfl, by decide +kernel, by decide +kernel⟩
theorem ok_call_order {f fR : Addr} {fd fdR : FuncData} {k : Nat} (F : Fun K "call_order" "call_order" s_call_order f fd) (T : Txt K mg C) (DR : Dn K mg "in_row" s_in_row ["widths"] fR fdR) (GR : FnOk P w K mg base CX0 k fR fdR ["widths"] (spInRow Tt)) :
    FnOk P w K mg base CX0 (k + 1) f fd ["shed", "given"] (spC C Tt 19) := by
  refine F.ok scOd spC_len (fun cdv A outer s H vs Q E hr h => ?_)
  obtain ⟨x, g, gl, c, st, rfl, hreq, hg, hsh, hs, hT, fin⟩ := h
  obtain ⟨a, rfl⟩ := some_of (hs (by decide))
  cases hreq with
  | order =>
    refine ⟨_, pss_one (ps_ret (pe_op op_cat (pe_lst (pa_cons (pe_callB call_len_seq rfl T.len PySem.boot_len (pa_cons (pe_fld (pv 0) rfl) pa_nil)) pa_nil)) (pe_call GR hr rfl DR.mg_ DR.fn.kp DR.bd .nil pass0 (pa_cons (pe_fld (pv 0) rfl) pa_nil)))), ?_⟩
    obtain ⟨⟨dx, w0, u0, ts, hx, hw, hu, hts⟩, hG⟩ := id hsh
    have c24 := hG.c24
    refine ⟨_, rfl, x, C, dx, _, _, rfl, hx, T.cl, T.nW, sh_widths, w0, _, rfl, .inl (SqL.of hw), (by show 1 ≤ sizeLine; decide), fun q1 hq1 => ?_⟩
    have g1 : Go Tt none H (upd H q1 (.lst [.int ((nv a.caps).length : Int)])) := (Go.refl hT).new hq1
    refine ⟨_, rfl, x, C, dx, _, _, rfl, g1.of hx fun _ => nofun, T.cl, T.nW, sh_widths, w0, a.caps, rfl, g1.lst hw, (by omega), g1.ok', fun H2 p g2 np hp => ?_⟩
    have gg := g1.trans g2
    have hq2 : H2 q1 = some (.lst [.int ((nv a.caps).length : Int)]) := g2.lst upd_same
    have il : (inTurn a.caps).length = a.caps.length := inTurn_length _
    refine ⟨q1, p, _, _, rfl, rfl, hq2, hp, (by show 1 + (nv (inTurn a.caps)).length ≤ sizeLine; rw [nv_length, sizeLine_eq]; omega), fun q hq => ?_⟩
    refine answer_new (s := some a) (r := (some a, Kh366.list (inTurn a.caps))) fin gg.weak (ShedIs.go hsh gg) hq ?_
    show [V.int ((nv a.caps).length : Int)] ++ nv (inTurn a.caps) = _
    rw [nv_length, ← il]
    exact ans_list _

/-! ### state -/
theorem scSt : FnScope ["shed", "given"] ["shed", "given"] (defScope s_call_state) := ⟨rfl, rfl, rfl, by decide +kernel, rfl, by decide +kernel, by decide +kernel⟩
theorem ok_call_state {f : Addr} {fd : FuncData} (F : Fun K "call_state" "call_state" s_call_state f fd) (T : Txt K mg C) : FnOk P w K mg base CX0 1 f fd ["shed", "given"] (spC C Tt 20) := by
  refine F.ok scSt spC_len (fun cdv A outer s H vs Q E hr h => ?_)
  obtain ⟨x, g, gl, c, st, rfl, hreq, hg, hsh, hs, hT, fin⟩ := h
  obtain ⟨a, rfl⟩ := some_of (hs (by decide))
  cases hreq with
  | state =>
    refine ⟨_, pss_one (ps_ret (pe_lst (pa_cons (pe_fld (pv 0) rfl) (pa_cons (pe_fld (pv 0) rfl) (pa_cons (pe_callB call_len_seq rfl T.len PySem.boot_len (pa_cons (pe_fld (pv 0) rfl) pa_nil)) (pa_cons (pe_callB call_len_seq rfl T.len PySem.boot_len (pa_cons (pe_fld (pv 0) rfl) pa_nil)) pa_nil)))))), ?_⟩
    obtain ⟨⟨dx, w0, u0, ts, hx, hw, hu, hts⟩, hG⟩ := id hsh
    refine ⟨_, rfl, x, C, dx, _, _, rfl, hx, T.cl, T.nE, sh_each, _, rfl, x, C, dx, _, _, rfl, hx, T.cl, T.nD, sh_differ, _, rfl, x, C, dx, _, _, rfl, hx, T.cl, T.nW, sh_widths, w0, _, rfl, .inl (SqL.of hw), _, rfl, x, C, dx, _, _, rfl, hx, T.cl, T.nU, sh_earlier, u0, _, rfl, .inl (SqL.of hu), (by show 4 ≤ sizeLine; decide), fun q hq => ?_⟩
    refine answer_new (s := some a) (r := (some a, ⟨(a.each : Nat), [a.differ, a.caps.length, a.undo.length]⟩)) fin (Go.refl hT) hsh hq ?_
    have el : ts.length = a.undo.length := by
      have := Paired.length hts
      rw [List.length_reverse] at this
      exact this
    show [V.int (a.each : Int), V.int (a.differ : Int), V.int ((nv a.caps).length : Int), V.int ((ts.map V.ref).length : Int)] = _
    rw [nv_length, List.length_map, el]
    rfl
end
end Mush

namespace Mush
open PySem PySem.Spec PyProof.Rows L2 Kh366
def behindL : List Int := [2, 1, 1, 2, 1, 1, 0, 0, 1, 1, 0, 0, 1, 1, 1, 1, 1, 0, 0, 0, 0]
/-- what the loop over the calls uses besides -/
structure Txt2 (K : PySem.W.Frag) (mg : Str → Option Value) : Prop where
  one : ∃ t, mg "IS_ONE" = some (.int 11 t)
  beg : ∃ t, mg "BEGIN" = some (.int 0 t)
  nb : ∃ b, mg "NUMBERS_BEHIND" = some (.ref b) ∧ ∀ H : Hp, SqT K H b (behindL.map V.int)
/-- a call's number, and how many numbers stand behind it -/
theorem req_len {p : Int} {g : List Int} {c : Call} (h : Req p g c) : (p = 11 ∧ ∃ r : List Nat, g = (r.length : Int) :: r.map Int.ofNat) ∨ (p ≠ 11 ∧ 0 ≤ p ∧ p ≤ 20 ∧ behindL[p.toNat]? = some (g.length : Int)) := by
  cases h with
  | isOne r _ => exact .inl ⟨rfl, r, rfl⟩
  | _ => exact .inr ⟨by decide, by decide, by decide, rfl⟩
section
variable {P : Program} {w : World} {K : PySem.W.Frag} {mg : Str → Option Value} {base : Heap} {C : Addr} {Tt : Tb}
/-! ### end_of_call -/
def spEnd (K : PySem.W.Frag) : Sp := fun vs H Q _ => ∃ (a : Addr) (pre : List Int) (p : Int) (g r : List Int) (c : Call), vs = [.ref a, .int (pre.length : Int)] ∧ Req p g c ∧ SqL K H a ((pre ++ p :: (g ++ r)).map V.int) ∧ Q (.int ((pre.length + (1 + g.length) : Nat) : Int)) H
theorem scEn : FnScope ["calls", "start", "call"] ["calls", "start"] (defScope s_end_of_call) := ⟨rfl, rfl, rfl, by decide +kernel, rfl, by decide +kernel, by decide +kernel⟩
theorem ok_end_of_call {f : Addr} {fd : FuncData} (F : Fun K "end_of_call" "end_of_call" s_end_of_call f fd) (T : Txt2 K mg) : FnOk P w K mg base CX0 1 f fd ["calls", "start"] (spEnd K) := by
  refine F.ok scEn (fun vs H Q E h => ?_) (fun cdv A outer s H vs Q E hr h => ?_)
  · obtain ⟨a, pre, p, g, r, c, rfl, _⟩ := h
    rfl
  · obtain ⟨a, pre, p, g, r, c, rfl, hreq, ha, h⟩ := h
    obtain ⟨b, hb, hB⟩ := T.nb
    refine ⟨_, pss_cons (ps_set (i := 2) scEn.nd rfl (Or.inl rfl) (pe_ix ix_list (pv 0) (pv 1) (fun _ _ => rfl)))
      (pss_cons (ps_if (pt_cmpR op_eq (pv 2) (pe_gi rfl T.one) (nomark _)) (pss_one (ps_ret (pe_op op_add (pe_op op_add (pv 1) pe_int) (pe_ix ix_list (pv 0) (pe_op op_add (pv 1) pe_int) (fun _ _ => rfl))))) pss_nil)
      (pss_one (ps_ret (pe_op op_add (pe_op op_add (pv 1) pe_int) (pe_ix ix_tup (pe_glob (v := .ref b) rfl hb rfl) (pv 2) (fun _ _ => rfl)))))), ?_⟩
    have at0 : atI ((pre ++ p :: (g ++ r)).map V.int) (pre.length : Int) = some (.int p) := atI_nat (by rw [List.getElem?_map, List.getElem?_append_right (Nat.le_refl _), Nat.sub_self]; rfl)
    refine ⟨_, rfl, _, rfl, a, _, _, _, rfl, rfl, ha, at0, _, rfl, rfl, _, rfl, ?_⟩
    rcases req_len hreq with ⟨rfl, rr, rfl⟩ | ⟨hp, h0, h20, hl⟩
    · have at1 : atI ((pre ++ (11 : Int) :: (((rr.length : Int) :: rr.map Int.ofNat) ++ r)).map V.int) ((pre.length : Int) + 1) = some (.int (rr.length : Int)) := by
        rw [show (pre.length : Int) + 1 = ((pre.length + 1 : Nat) : Int) by omega]
        refine atI_nat ?_
        rw [List.getElem?_map, List.getElem?_append_right (by omega), Nat.add_sub_cancel_left]
        rfl
      refine iteT ⟨_, rfl, _, _, rfl, rfl, _, rfl, _, rfl, _, _, rfl, rfl, a, _, _, _, rfl, rfl, ha, at1, _, _, rfl, rfl, ?_⟩
      show Q (.int ((pre.length : Int) + 2 + (rr.length : Int))) H
      rw [show (pre.length : Int) + 2 + (rr.length : Int) = ((pre.length + (1 + ((rr.length : Int) :: rr.map Int.ofNat).length) : Nat) : Int) by rw [List.length_cons, List.length_map]; omega]
      exact h
    · rw [show decide (V.int p = V.int 11) = false by rw [dec_int]; exact beq_eq_false_iff_ne.mpr hp]
      have atb : atI (behindL.map V.int) p = some (.int (g.length : Int)) := by
        rw [show p = ((p.toNat : Nat) : Int) by omega]
        exact atI_nat (by rw [List.getElem?_map, hl]; rfl)
      refine iteF ⟨_, rfl, _, _, rfl, rfl, _, rfl, b, _, _, _, rfl, rfl, hB H, atb, _, _, rfl, rfl, ?_⟩
      show Q (.int ((pre.length : Int) + 1 + (g.length : Int))) H
      rw [show (pre.length : Int) + 1 + (g.length : Int) = ((pre.length + (1 + g.length) : Nat) : Int) by omega]
      exact h

/-! ### answer: with the promise of what it hands on to -/
def spAnswer (C : Addr) (T : Tb) : Sp := fun vs H Q _ => ∃ (x g : Addr) (p : Int) (gl : List Int) (c : Call) (s : Option Abs), vs = [.ref x, .int p, .ref g] ∧ Req p gl c ∧ H g = some (.lst (gl.map V.int)) ∧ ShedIs C H x s ∧ T.Ok H ∧
  ∀ (H' : Hp) (q : Addr), Go T (some x) H H' → ShedIs C H' x (doing s c).1 → H q = none → H' q = some (.lst ((ansL (doing s c).2).map V.int)) → Q (.ref q) H'
theorem doing_none {p : Int} {gl : List Int} {c : Call} (h : Req p gl c) (hp : p ≠ 0) : doing none c = (none, say (-61)) := by
  cases h with
  | begin_ k d => exact absurd rfl hp
  | _ => rfl

/-! ### answers: the loop -/
def spAnswers (K : PySem.W.Frag) (T : Tb) : Sp := fun vs H Q _ => ∃ (a : Addr) (l : List Int) (cs : List Call), vs = [.ref a] ∧ SqL K H a (l.map V.int) ∧ Flat l cs ∧ cs.length ≤ 100 ∧ T.Ok H ∧
  ∀ (H' : Hp) (p : Addr), H' p = some (.lst ((PyFlat.told (playedC none cs)).map V.int)) → Q (.ref p) H'
theorem scAs : FnScope ["calls", "shed", "told", "start", "end", "numbers"] ["calls"] (defScope s_answers) := ⟨rfl, rfl, rfl, by decide +kernel, rfl, by decide +kernel, by decide +kernel⟩
theorem sq_keep {K : PySem.W.Frag} {H H' : Hp} {a : Addr} {xs : List V} (k : ∀ o, H a = some o → H' a = some o) (h : SqL K H a xs) : SqL K H' a xs := by
  rcases h with (h | ⟨o, h⟩) | h
  · exact .inl (.inl (k _ h))
  · exact .inl (.inr ⟨o, k _ h⟩)
  · exact .inr h
/-- no answer has more than 26 numbers -/
theorem ans_len {s : Option Abs} {c : Call} (h : ∀ a, s = some a → Good a) : (ansL (doing s c).2).length ≤ 26 := by
  have one : ∀ (z : Int), (ansL (say z)).length ≤ 26 := fun z => by show 1 ≤ 26; decide
  have lst : ∀ (l : List Nat), l.length ≤ 24 → (ansL (Kh366.list l)).length ≤ 26 := fun l hl => by
    unfold ansL Kh366.list
    rw [List.length_cons, List.length_map]
    show l.length + 1 ≤ 26
    omega
  cases s with
  | none =>
    cases c with
    | begin_ k d =>
      show (ansL (if okEach k = false ∨ DIFFER < d then ((none : Option Abs), say (-22)) else (some (begun k d), say 0)).2).length ≤ 26
      split <;> exact one _
    | _ => exact one _
  | some a =>
    have hG := h a rfl
    have fl : ∀ (p : Nat → Bool), ((List.range a.caps.length).filter p).length ≤ 24 := fun p => by
      have := List.length_filter_le p (List.range a.caps.length)
      rw [List.length_range] at this
      exact Nat.le_trans this hG.c24
    cases c with
    | begin_ k d =>
      show (ansL (if okEach k = false ∨ DIFFER < d then (some a, say (-22)) else (some (begun k d), say 0)).2).length ≤ 26
      split <;> exact one _
    | cap w =>
      show (ansL (if okWide w = false then (some a, say (-22)) else if CAPS ≤ a.caps.length then (some a, say (-28)) else (some (keep a { a with caps := a.caps ++ [w] }), say a.caps.length)).2).length ≤ 26
      split
      · exact one _
      · split <;> exact one _
    | out i =>
      show (ansL (if a.caps.length ≤ i then (some a, say (-2)) else (some (keep a (without a i)), say (a.caps.length - 1 : Nat))).2).length ≤ 26
      split <;> exact one _
    | width i w =>
      show (ansL (if a.caps.length ≤ i then (some a, say (-2)) else if okWide w = false then (some a, say (-22)) else (some (keep a { a with caps := a.caps.set i w }), say (a.caps.getD i 0))).2).length ≤ 26
      split
      · exact one _
      · split <;> exact one _
    | each k =>
      show (ansL (if okEach k = false then (some a, say (-22)) else if k = a.each then (some a, say (-17)) else (some (keep a { a with each := k }), say a.each)).2).length ≤ 26
      split
      · exact one _
      · split <;> exact one _
    | differ d =>
      show (ansL (if DIFFER < d then (some a, say (-22)) else if d = a.differ then (some a, say (-17)) else (some (keep a { a with differ := d }), say a.differ)).2).length ≤ 26
      split
      · exact one _
      · split <;> exact one _
    | back =>
      show (ansL (match a.undo with | x :: u => (some (⟨x.1, x.2.1, x.2.2, u⟩ : Abs), say u.length) | [] => (some a, say (-2))).2).length ≤ 26
      split <;> exact one _
    | count => exact one _
    | punnet p =>
      show (ansL (match (punnets a)[p]? with | none => (some a, say (-33)) | some l => (some a, Kh366.list l)).2).length ≤ 26
      split
      · exact one _
      · rename_i l hl
        have := punnet_le hG (List.mem_of_getElem? hl)
        exact lst l (by omega)
    | which i =>
      show (ansL (if a.caps.length ≤ i then (some a, say (-2)) else (match (punnets a).findIdx? fun p => p.contains i with | none => (some a, say (-33)) | some p => (some a, say p))).2).length ≤ 26
      split
      · exact one _
      · split <;> exact one _
    | left => exact lst _ (fl _)
    | isOne l =>
      show (ansL (if (l.all fun i => decide (i < a.caps.length)) = false then (some a, say (-22)) else (some a, say (if Kh366.isOne a l then 1 else 0))).2).length ≤ 26
      split <;> exact one _
    | spread p =>
      show (ansL (match (punnets a)[p]? with | none => (some a, say (-33)) | some l => (some a, say (Kh366.spread a l))).2).length ≤ 26
      split <;> exact one _
    | ifDiffer d =>
      show (ansL (if DIFFER < d then (some a, say (-22)) else (some a, say (countBy a.each d a.caps))).2).length ≤ 26
      split <;> exact one _
    | ifEach k =>
      show (ansL (if okEach k = false then (some a, say (-22)) else (some a, say (countBy k a.differ a.caps))).2).length ≤ 26
      split <;> exact one _
    | least n =>
      show (ansL (if CAPS < n then (some a, say (-22)) else (match Kh366.least a n with | none => (some a, say (-33)) | some d => (some a, say d))).2).length ≤ 26
      split
      · exact one _
      · split <;> exact one _
    | more w =>
      show (ansL (if okWide w = false then (some a, say (-22)) else (some a, say (countBy a.each a.differ (a.caps ++ [w])))).2).length ≤ 26
      split <;> exact one _
    | bestMore => show 2 ≤ 26; decide
    | needed => exact lst _ (fl _)
    | order => exact lst _ (by rw [inTurn_length]; exact hG.c24)
    | state => show 4 ≤ 26; decide
/-- the shed and a thing that is locked stand apart -/
theorem ShedIs.frz {C : Addr} {H : Hp} {x t : Addr} {s : Option Abs} {od : Obj} {u o : HO} (h : ShedIs C H x s) (ht : H t = some (.frz od u)) : ShedIs C (upd H t o) x s := by
  have k : ∀ b v, H b = some v → (∀ a c, v ≠ .frz a c) → upd H t o b = some v := fun b v e hv => by
    rw [upd_ne (ne_of e ht (hv od u))]
    exact e
  have at_ : ∀ {b : Bool} {a : Abs}, ShedAt C H x b a → ShedAt C (upd H t o) x b a := fun {b a} ⟨dx, w, u', ts, h1, h2, h3, h4⟩ =>
    ⟨dx, w, u', ts, k _ _ h1 fun _ _ => nofun, k _ _ h2 fun _ _ => nofun, k _ _ h3 fun _ _ => nofun, h4.keep fun b xs => ⟨fun e => k _ _ e fun _ _ => nofun, fun e => k _ _ e fun _ _ => nofun⟩⟩
  cases s with
  | none => exact at_ h
  | some a => exact ⟨at_ h.1, h.2⟩
theorem sq_go {K : PySem.W.Frag} {H H' : Hp} {a : Addr} {xs : List V} (ha : SqL K H a xs) (k : ∀ o, H a = some o → (∀ ps, o ≠ .tbl ps) → H' a = some o) : SqL K H' a xs := by
  rcases ha with (h | ⟨o, h⟩) | h
  · exact .inl (.inl (k _ h fun _ => nofun))
  · exact .inl (.inr ⟨o, k _ h fun _ => nofun⟩)
  · exact .inr h
theorem ShedIs.good {C : Addr} {H : Hp} {x : Addr} {s : Option Abs} (h : ShedIs C H x s) : ∀ a, s = some a → Good a := fun a e => by
  subst e
  exact h.2
theorem cut_mid (pre : List Int) (p : Int) (g r : List Int) : cutV ((pre ++ p :: (g ++ r)).map V.int) (some ((pre.length : Int) + 1)) (some ((pre.length + (1 + g.length) : Nat) : Int)) = g.map V.int := by
  rw [show (pre.length : Int) + 1 = ((pre.length + 1 : Nat) : Int) by omega, cut_ab (by rw [List.length_map, List.length_append, List.length_cons, List.length_append]; omega) (by omega),
    ← List.map_drop, ← List.map_take]
  congr 1
  have e : pre ++ p :: (g ++ r) = (pre ++ [p]) ++ (g ++ r) := by simp
  rw [e, List.drop_append_of_le_length (by rw [List.length_append]; simp), List.drop_of_length_le (by rw [List.length_append]; simp), List.nil_append, show pre.length + (1 + g.length) - (pre.length + 1) = g.length by omega, List.take_left]
theorem ok_answers {f fI fE fA : Addr} {fd fdI fdE fdA : FuncData} {k : Nat} (F : Fun K "answers" "answers" s_answers f fd) (T : Txt K mg C) (T2 : Txt2 K mg) (M : Mk K C fI) (FI : Fun K "__init__" "Shed.__init__" s_Shed_init fI fdI) (bI : Binds K fdI ["self"] [])
    (DE : Dn K mg "end_of_call" s_end_of_call ["calls", "start"] fE fdE) (DA : Dn K mg "answer" s_answer ["shed", "call", "given"] fA fdA) (GA : FnOk P w K mg base CX0 (k + 2) fA fdA ["shed", "call", "given"] (spAnswer C Tt)) :
    FnOk P w K mg base CX0 (k + 3) f fd ["calls"] (spAnswers K Tt) := by
  have GI : FnOk P w K mg base CX0 1 fI fdI ["self"] (spInit C Tt) := ok_init FI T
  have GE : FnOk P w K mg base CX0 1 fE fdE ["calls", "start"] (spEnd K) := ok_end_of_call DE.fn T2
  refine F.ok scAs (fun vs H Q E h => ?_) (fun cdv A outer s H vs Q E hr h => ?_)
  · obtain ⟨a, l, cs, rfl, _⟩ := h
    rfl
  · obtain ⟨a, l, cs, rfl, ha, hF, h100, hT, fin⟩ := h
    have hr1 : Room 1 _ := hr.mono (by omega)
    have hr2 : Room 2 _ := hr.mono (by omega)
    refine ⟨_, pss_cons (ps_set (i := 1) scAs.nd rfl (Or.inl rfl) (pe_make0 M GI hr2 rfl T.mgC bI .nil pass0))
      (pss_cons (ps_set (i := 2) scAs.nd rfl (Or.inl rfl) (pe_lst pa_nil)) (pss_cons (ps_set (i := 3) scAs.nd rfl (Or.inl rfl) pe_int)
      (pss_cons (ps_while PassesOwn.never (pt_cmpR op_lt (pv 3) (pe_callB call_len_seq rfl T.len PySem.boot_len (pa_cons (pv 0) pa_nil)) (nomark _))
        (pss_cons (ps_set (i := 4) scAs.nd rfl (Or.inl rfl) (pe_call GE hr1 rfl DE.mg_ DE.fn.kp DE.bd .nil pass0 (pa_cons (pv 0) (pa_cons (pv 3) pa_nil))))
        (pss_cons (ps_lock (ps_set (i := 5) scAs.nd rfl (Or.inl rfl) (pe_call GA hr rfl DA.mg_ DA.fn.kp DA.bd .nil pass0 (pa_cons (pv 1) (pa_cons (pe_ix ix_list (pv 0) (pv 3) (fun _ _ => rfl)) (pa_cons (pe_slice sl_list (pv 0) (po_some (pe_op op_add (pv 3) pe_int)) (po_some (pv 4))) pa_nil))))))
        (pss_cons (ps_expr (pe_bm PySem.F.plainAttrs_list PySem.F.slot_list_append PySem.F.type_list_append mt_append (pv 2) (pa_cons (pe_callB call_len_seq rfl T.len PySem.boot_len (pa_cons (pv 5) pa_nil)) pa_nil)))
        (pss_cons (ps_expr (pe_bm PySem.F.plainAttrs_list PySem.F.slot_list_extend PySem.F.type_list_extend mt_extend (pv 2) (pa_cons (pv 5) pa_nil)))
        (pss_one (ps_set (i := 3) scAs.nd rfl (Or.inl rfl) (pv 4))))))))
      (pss_one (ps_ret (pv 2)))))), ?_⟩
    intro x dx nx ndx nex
    have x1 : upd H dx (.own x) x = none := by rw [upd_ne nex.symm]; exact nx
    have g0 : Go Tt none H (upd (upd H dx (.own x)) x (.ins C dx [])) := ((Go.refl hT).new ndx).new x1
    refine ⟨x, dx, rfl, upd_same, g0.ok', fun H1 sh1 g1 => ⟨rfl, ?_⟩⟩
    refine ⟨Nat.zero_le _, fun t ht => ?_⟩
    obtain ⟨ox, hox⟩ := ShedIs.x (s := none) sh1
    have xt : x ≠ t := ne_of_none hox ht
    have aX : ∀ o, H a = some o → a ≠ x := fun o e => ne_of_none e nx
    have kA1 : ∀ o, H a = some o → (∀ ps, o ≠ .tbl ps) → H1 a = some o := fun o e ho => g1.ofx (g0.of e ho) ho (aX o e)
    have aT : ∀ o, H a = some o → (∀ ps, o ≠ .tbl ps) → a ≠ t := fun o e ho => ne_of_none (kA1 o e ho) ht
    refine while_by (fun σ H' => ∃ (pre post : List Int) (cs' : List Call) (st : Option Abs) (out : List Int) (e n : Option V), σ = [some (.ref a), some (.ref x), some (.ref t), some (.int (pre.length : Int)), e, n] ∧ l = pre ++ post ∧ Flat post cs' ∧
        (∀ o, H a = some o → (∀ ps, o ≠ .tbl ps) → H' a = some o) ∧ (∀ o, ShedIs C (upd H' t o) x st) ∧ H' t = some (.lst (out.map V.int)) ∧ Tt.Ok H' ∧ PyFlat.told (playedC none cs) = out ++ PyFlat.told (playedC st cs') ∧ out.length + 27 * cs'.length ≤ 2700)
      (fun σ _ => match σ with | [_, _, _, some (.int i), _, _] => l.length - i.toNat | _ => 0) ?_ ?_ ?_
    · refine ⟨[], l, cs, none, [], none, none, rfl, rfl, hF, fun o e ho => ?_, fun o => by rw [upd_upd]; exact ShedIs.new (s := none) (T := Tt) sh1 g1.ok' ht, upd_same, g1.ok'.upd (.inl ht), (List.nil_append _).symm, by show 0 + 27 * cs.length ≤ 2700; omega⟩
      rw [upd_ne (aT o e ho)]
      exact kA1 o e ho
    · rintro σ H' ⟨pre, post, cs', st, out, e, n, rfl, hl, hF', kA, sh, hto, hok, heq, hb⟩
      have sa : SqL K H' a (l.map V.int) := sq_go ha kA
      refine ⟨_, rfl, _, rfl, a, _, rfl, .inl sa, _, _, rfl, rfl, _, rfl, ?_⟩
      rw [List.length_map]
      cases hF' with
      | nil =>
        have hl' : l = pre := by rw [hl, List.append_nil]
        rw [show decide ((pre.length : Int) < (l.length : Int)) = false from decide_eq_false (by rw [hl']; omega)]
        refine iteF ⟨_, rfl, ?_⟩
        refine fin H' t ?_
        have e0 : PyFlat.told (playedC st []) = [] := rfl
        rw [heq, e0, List.append_nil]
        exact hto
      | @cons p g r c cs'' hreq hF'' =>
        rw [show decide ((pre.length : Int) < (l.length : Int)) = true from decide_eq_true (by rw [hl, List.length_append, List.length_cons]; omega)]
        rw [hl] at sa
        refine iteT ⟨_, rfl, _, rfl, a, pre, p, g, r, c, rfl, hreq, sa, ?_⟩
        -- numbers = answer(..), told locked
        refine ⟨t, _, hto, trivial, fun od => ?_⟩
        have at0 : atI ((pre ++ p :: (g ++ r)).map V.int) (pre.length : Int) = some (.int p) := atI_nat (by rw [List.getElem?_map, List.getElem?_append_right (Nat.le_refl _), Nat.sub_self]; rfl)
        have kA2 : ∀ o, H a = some o → (∀ ps, o ≠ .tbl ps) → upd H' t (.frz od (.lst (out.map V.int))) a = some o := fun o e ho => by rw [upd_ne (aT o e ho)]; exact kA o e ho
        have sa2 : SqL K (upd H' t (.frz od (.lst (out.map V.int)))) a ((pre ++ p :: (g ++ r)).map V.int) := by
          have := sq_go ha kA2
          rw [hl] at this
          exact this
        have sh2 : ShedIs C (upd H' t (.frz od (.lst (out.map V.int)))) x st := sh _
        have ok2 : Tt.Ok (upd H' t (.frz od (.lst (out.map V.int)))) := hok.upd (.inr ⟨_, hto, fun _ => nofun, fun _ => nofun⟩)
        refine ⟨_, rfl, _, rfl, _, rfl, a, _, _, _, rfl, rfl, sa2, at0, _, rfl, _, rfl, _, _, rfl, rfl, _, rfl, _, rfl, _, rfl, a, _, rfl, sa2, fun gq hgq => ?_⟩
        rw [cut_mid]
        refine ⟨x, gq, p, g, c, st, rfl, hreq, upd_same, sh2.new ok2 hgq, ok2.upd (.inl hgq), fun H3 q3 g3 sh3 n3 hq3 => ?_⟩
        have tg : t ≠ gq := fun z => by rw [← z, upd_same] at hgq; cases hgq
        have ht3 : H3 t = some (.frz od (.lst (out.map V.int))) := g3.ofx (by rw [upd_ne tg, upd_same]) (fun _ => nofun) xt.symm
        have qt : q3 ≠ t := ne_of hq3 ht3 nofun
        have al := ans_len (c := c) (fun a' e' => ((sh (.lst [])).good a' e'))
        have o2700 : out.length + 27 * (cs''.length + 1) ≤ 2700 := hb
        refine ⟨ht3, ?_⟩
        refine ⟨_, rfl, .inl ⟨rfl, _, SqL.of upd_same⟩, _, rfl, q3, _, rfl, .inl (SqL.of (by rw [upd_ne qt]; exact hq3)), t, _, _, rfl, rfl, upd_same, (by rw [List.length_map, sizeLine_eq]; omega), ?_⟩
        rw [upd_upd]
        refine ⟨_, rfl, .inl ⟨rfl, _, SqL.of upd_same⟩, _, rfl, t, q3, _, _, rfl, rfl, upd_same, (by rw [upd_ne qt]; exact hq3), (by rw [List.length_append, List.length_map, List.length_map, sizeLine_eq]; simp only [List.length_cons, List.length_nil]; omega), ?_⟩
        rw [upd_upd]
        have el : (pre ++ p :: g).length = pre.length + (1 + g.length) := by rw [List.length_append, List.length_cons]; omega
        refine ⟨_, rfl, ⟨pre ++ p :: g, r, cs'', (doing st c).1, out ++ (((ansL (doing st c).2).length : Int) :: ansL (doing st c).2), some (V.int ((pre.length + (1 + g.length) : Nat) : Int)), some (V.ref q3), ?_, ?_, hF'', fun o e ho => ?_, fun o => ?_, ?_, ?_, ?_, ?_⟩, ?_⟩
        · rw [el]
          rfl
        · rw [hl]
          simp
        · have an := aT o e ho
          rw [upd_ne an]
          have e2 := kA2 o e ho
          exact g3.ofx (by rw [upd_ne (ne_of_none e2 hgq)]; exact e2) ho (aX o e)
        · rw [upd_upd]
          exact sh3.frz ht3
        · rw [upd_same, List.map_append, List.map_cons, List.length_map, List.append_assoc]
          rfl
        · exact g3.ok'.upd (.inr ⟨_, ht3, fun _ => nofun, fun _ => nofun⟩)
        · rw [heq, List.append_assoc]
          rfl
        · rw [List.length_append, List.length_cons]
          omega
        · show l.length - (((pre.length + (1 + g.length) : Nat) : Int)).toNat < l.length - ((pre.length : Nat) : Int).toNat
          have : l.length = pre.length + (1 + (g.length + r.length)) := by rw [hl, List.length_append, List.length_cons, List.length_append]; omega
          omega
    · intro σ H Q Q' hq h
      obtain ⟨v, e1, v2, e2, x1, x2, e3, e4, i1, j1, e5, e6, b1, e7, z⟩ := h
      exact ⟨v, e1, v2, e2, x1, x2, e3, e4, i1, j1, e5, e6, b1, e7, hq _ _ z⟩
end
end Mush

namespace L2
open PySem PySem.Spec PyProof.Rows
open PySem.W (WData Codec OpenSpec Well WellAll ReadsW ReadsAllW)
/-- what is tracked at the start: the arguments, known; one table, empty -/
def OnlyT (H : Hp) (Pt : Addr) : Prop := H Pt = some (.tbl #[]) ∧ ∀ b, b ≠ Pt → H b = none ∨ ∃ o u, H b = some (.frz o u)
theorem Same.seqT {K : PySem.W.Frag} {H H' : Hp} {a : Addr} {xs : List V} (e : Same H H') (h : SqT K H a xs) : SqT K H' a xs := by
  rcases h with (h | ⟨o, h⟩) | h
  · exact .inl (.inl (e _ _ h))
  · exact .inl (.inr ⟨o, e _ _ h⟩)
  · exact .inr h
mutual
theorem dw_keep {K : PySem.W.Frag} {H H' : Hp} (k : Same H H') : ∀ {v : V} {d : WData}, Dw K H v d → Dw K H' v d
  | _, _, .non => .non
  | _, _, .bl b => .bl b
  | _, _, .int i => .int i
  | _, _, .str x => .str x
  | _, _, .byt b => .byt b
  | _, _, .lst s a => .lst (k.seq s) (dw_keepAll k a)
  | _, _, .tup s a => .tup (k.seqT s) (dw_keepAll k a)
theorem dw_keepAll {K : PySem.W.Frag} {H H' : Hp} (k : Same H H') : ∀ {vs : List V} {ds : List WData}, DwAll K H vs ds → DwAll K H' vs ds
  | _, _, .nil => .nil
  | _, _, .cons a r => .cons (dw_keep k a) (dw_keepAll k r)
end
theorem spec_callT {P : Program} {w : World} {K : PySem.W.Frag} {mg mb : Str → Option Value} {CX : CXT} {k : Nat} {fa c Pt : Addr} {fd : FuncData} {ps : List Str} {sp : Sp} {s₁ : Shared} {vals : List Value} {ds : List WData} {R : PySem.W.WRecords} {cl : Str → Option Addr} {d0 : WData}
    (KX : K.In s₁.heap) (hns : s₁.heap.Ns mainGlobals mg) (hb : s₁.heap.Ns builtinsNs mb) (hbb : ∀ x : Str, x ≠ "__name__" → mb x = bootBuiltins x) (hlim : s₁.heap.NoLimit) (hg : s₁.gens = #[])
    (hCd : PySem.W.CodeHd s₁.heap c Pt) (hPt : s₁.heap.get? Pt = some (PySem.W.tabObj #[])) (nT : PySem.W.noTabs K = true)
    (hbm : ∃ bm ob, mg "__builtins__" = some (.ref bm) ∧ bm ≠ builtinsNs ∧ s₁.heap.get? bm = some ob ∧ ob.cls = .type "module" ∧ ob.dict = some builtinsNs ∧ ob.data = .plain)
    (hwl : WellAll w.params s₁.heap vals ds) (hpl : plWs ds = true) (hwt : ∀ d ∈ ds, d.weight ≤ 1048576) (hr : Room k callerA)
    (F : ∀ base : Heap, K.In base → base.Ns mainGlobals mg → LamBase base mg c Pt → FnOk P w K mg base CX k fa fd ps sp) (hbind : ∀ (s : Shared) (us : List Value), us.length = ps.length → BindsTo s fd ⟨us, []⟩ (ps.zip us)) (hlen : ds.length = ps.length)
    (hsp : ∀ (H : Hp) (xs : List V), OnlyT H Pt → DwAll K H xs ds → sp xs H (fun v H' => Dw K H' v d0) fun _ _ _ => False)
    (hCX : ∀ H e s', CX [] H s₁ (fun _ _ _ => False) e s' → False) :
    codeAny (model P w) callerA (.call (.ref fa) ⟨vals, []⟩) (fun r s' => ∃ u as, r = .ok (.ret u) ∧ ReadsW R cl s'.heap u d0 as ∧ OldK s₁.heap s'.heap ∧ s'.os = s₁.os ∧ AllBare s'.gens) s₁ := by
  obtain ⟨A, ho, ar⟩ := area_all ds vals hwl hpl hwt
  have hO : OnlyF (argH K s₁.heap A) := argH_only ar
  have hok0 : HOk P w (argH K s₁.heap A) s₁.heap := argH_ok ar
  have hS0 := dw_all KX ar ds vals hwl hpl ho
  have hV := vals_toV ho
  have hK0 : ∀ b u, argH K s₁.heap A b = some u → K.lookup b = none := fun b u q => (argH_is ar q).1
  have noS : ∀ {b : Addr} {o : Obj}, s₁.heap.get? b = some o → (∀ xs n, o.data ≠ .seq xs n) → argH K s₁.heap A b = none := fun {b o} e d => by
    cases q : argH K s₁.heap A b with
    | none => rfl
    | some u =>
      obtain ⟨_, vs, _, _, ⟨e2, _⟩ | ⟨e2, _⟩⟩ := argH_is ar q
      · rw [e2] at e
        cases e
        exact absurd rfl (d _ _)
      · rw [e2] at e
        cases e
        exact absurd rfl (d _ _)
  generalize argH K s₁.heap A = H0 at hO hok0 hS0 hK0 noS
  have nP : H0 Pt = none := noS hPt fun _ _ => nofun
  have kP : K.lookup Pt = none := by
    cases q : K.lookup Pt with
    | none => rfl
    | some o =>
      have e := KX Pt o q
      rw [hPt] at e
      cases e
      have h2 := List.all_eq_true.mp nT (Pt, _) (PySem.W.mem_of_lookupK q)
      exact absurd (show false = true from h2) Bool.false_ne_true
  -- with the table
  have hT : OnlyT (upd H0 Pt (.tbl #[])) Pt := ⟨upd_same, fun b hb => by
    rw [upd_ne hb]
    exact hO b⟩
  have keepH : ∀ b u, H0 b = some u → upd H0 Pt (.tbl #[]) b = some u := fun b u e => by rw [upd_ne (ne_of_none e nP)]; exact e
  have hok : HOk P w (upd H0 Pt (.tbl #[])) s₁.heap := fun b u e => by
    by_cases hb : b = Pt
    · subst hb
      rw [upd_same] at e
      cases e
      exact hPt
    · rw [upd_ne hb] at e
      exact (hok0 b u e).stay (fun _ _ _ q => q) (fun c q => keepH c _ q) fun c xs q => keepH c _ q
  have hS : DwAll K (upd H0 Pt (.tbl #[])) (vals.map toV) ds := dw_keepAll keepH hS0
  have hK : ∀ b u, b ≠ Pt → upd H0 Pt (.tbl #[]) b = some u → K.lookup b = none := fun b u hb q => by rw [upd_ne hb] at q; exact hK0 b u q
  have free : ∀ {b : Addr} {o : Obj}, s₁.heap.get? b = some o → b ≠ Pt → (∀ xs n, o.data ≠ .seq xs n) → upd H0 Pt (.tbl #[]) b = none := fun e hb d => by rw [upd_ne hb]; exact noS e d
  have nK : ∀ b o, K.lookup b = some o → upd H0 Pt (.tbl #[]) b = none := fun b o e => by
    have hb : b ≠ Pt := fun z => by rw [z, kP] at e; cases e
    cases q : upd H0 Pt (.tbl #[]) b with
    | none => rfl
    | some u =>
      rw [hK b u hb q] at e
      cases e
  generalize upd H0 Pt (.tbl #[]) = H at hT hok hS hK free nK
  have base_of : ∀ {b : Addr} {o : Obj}, s₁.heap.get? b = some o → H b = none → (hidT s₁.heap H).get? b = some o := fun e n => hidT_get e n
  have dP : ∀ {b : Addr} {o : Obj}, s₁.heap.get? b = some o → (∀ vs, o.data ≠ .fields vs) → b ≠ Pt := fun e d z => by
    rw [z, hPt] at e
    cases e
    exact d _ rfl
  have nsK : ∀ {b : Addr} {m : Str → Option Value}, s₁.heap.Ns b m → (hidT s₁.heap H).Ns b m := fun {b m} ⟨o, es, ep, e, d, r⟩ => ⟨o, es, ep, base_of e (free e (dP e fun _ => by rw [d]; nofun) fun _ _ => by rw [d]; nofun), d, r⟩
  have hKb : K.In (hidT s₁.heap H) := fun b o e => base_of (KX b o e) (nK b o e)
  have hM : Mod K mg (hidT s₁.heap H) := ⟨hKb, nsK hns, ⟨mb, nsK hb, hbb⟩, let ⟨mc, h1, h2⟩ := hlim; ⟨mc, nsK h1, h2⟩⟩
  have LB : LamBase (hidT s₁.heap H) mg c Pt := by
    refine ⟨?_, ?_⟩
    · obtain ⟨o, vs, file, tf, flags, tg, inF, text, tt, e, r1, r2, r3, r4, r5, r6, r7, r8, r9⟩ := hCd
      exact ⟨o, vs, file, tf, flags, tg, inF, text, tt, base_of e (free e r9 fun _ _ => by rw [r2]; nofun), r1, r2, r3, r4, r5, r6, r7, r8, r9⟩
    · obtain ⟨bm, ob, b1, b2, b3, b4, b5, b6⟩ := hbm
      refine ⟨bm, ob, b1, b2, fun z => ?_, base_of b3 (free b3 (dP b3 fun _ => by rw [b6]; nofun) fun _ _ => by rw [b6]; nofun), b4, b5, b6⟩
      obtain ⟨o, es, ep, e, d, _⟩ := hns
      rw [z, e] at b3
      cases b3
      rw [d] at b6
      cases b6
  have e0 : Env0 P w K mg (hidT s₁.heap H) callerA [] s₁ H := ⟨rfl, hM, fun b o e => of_hidT e, Nat.le_of_eq (hidT_size _ _), trivial, fun b hb => absurd (show b ∈ ([] : List Addr) from hb) (by simp), hok, .of_eq hg⟩
  have hl : vals.length = ps.length := by rw [wellAll_len hwl]; exact hlen
  refine codeAny_mono ((F _ hKb (nsK hns) LB).run callerA [] s₁ H ⟨vals, []⟩ vals (vals.map toV) _ _ hr e0 (hbind s₁ vals hl) hV (hsp H _ hT hS)) fun r s' x => ?_
  cases r with
  | error e => exact (hCX H e s' x).elim
  | ok fl =>
    cases fl with
    | next => exact False.elim x
    | brk => exact False.elim x
    | cont => exact False.elim x
    | ret u =>
      obtain ⟨v, H', os, bare, un, hok', r', q⟩ := x
      have kept : ∀ b o, b ≠ Pt → s₁.heap.get? b = some o → s'.heap.get? b = some o := fun b o hbP e => by
        rcases hT.2 b hbP with z | ⟨ob, u3, z⟩
        · exact un.keep b o e z (by intro z; exact absurd (show b ∈ ([] : List Addr) from z) (by simp)) (by simp)
        · have z2 := un.frzs b ob _ z
          obtain ⟨e1, _⟩ := hok b _ z
          obtain ⟨e2, _⟩ := hok' b _ z2
          rw [e] at e1
          cases e1
          exact e2
      obtain ⟨more, hmore⟩ := un.tbls Pt _ hT.1
      have tab' : s'.heap.get? Pt = some { cls := .none, data := .fields (#[] ++ more) } := hok' Pt _ hmore
      have old : OldK s₁.heap s'.heap := by
        refine ⟨fun b o e => ?_, fun b o e => ?_⟩
        · by_cases hbP : b = Pt
          · subst hbP
            rw [hPt] at e
            cases e
            exact .inr (.inl ⟨(hCd.tab hPt).isCodeTable, rfl, #[], more, rfl, tab'⟩)
          · exact .inl (kept b o hbP e)
        · by_cases hbP : b = Pt
          · subst hbP
            exact ⟨_, tab'⟩
          · exact ⟨o, kept b o hbP e⟩
      have KX' : K.In s'.heap := fun b o e => kept b o (fun z => by rw [z, kP] at e; cases e) (KX b o e)
      obtain ⟨as, hrd⟩ := Dw.reads (R := R) (cl := cl) hok' KX' d0 v u q r'
      exact ⟨u, as, rfl, hrd, old, os, bare⟩
/-- the goal that k_headS leaves, from the promise of the row's def; x: the def of the text that makes a lambda -/
theorem walk_specT {r : OpenSpec} {k : Nat} {q : Program} {loose : List Str} {XP : (Str → Option Value) → Heap → Prop} {YP : World → Heap → Prop} {d dR : DefRec} {K : Params → PySem.W.Frag} {CX : CXT} {ps : List Str} {sp : PySem.W.Frag → Addr → Sp} {x : Str}
    (hwell : r.wellSaid = true) (hdf : d.params.defaults = []) (hlen : r.args.length = ps.length) (hr : Room k callerA) (hrec : (PyProof.Rows.recsOf q).find? (fun e => e.name == x) = some dR)
    (hY : ∀ (w : World) (h : Heap), YP w h → (K w.params).In h)
    (F : ∀ (w : World) (mg : Str → Option Value) (fa : Addr) (h : Heap), YP w h → (K w.params).In h → h.Ns mainGlobals mg → mg d.name = some (.ref fa) →
      ∃ (fd : FuncData) (c Pt : Addr), PySem.W.tabIn (K w.params) x = some (c, Pt) ∧ PySem.W.noTabs (K w.params) = true ∧ (∀ (s : Shared) (us : List Value), us.length = ps.length → BindsTo s fd ⟨us, []⟩ (ps.zip us)) ∧
        ∀ base : Heap, (K w.params).In base → base.Ns mainGlobals mg → LamBase base mg c Pt → FnOk r.prog w (K w.params) mg base CX k fa fd ps (sp (K w.params) Pt))
    (hsp : ∀ (K : PySem.W.Frag) (Pt : Addr) (H : Hp) (xs : List V) (a : Codec.denoteAll r.args), OnlyT H Pt → Codec.withinAll r.args a = true → Codec.app r.args r.asked a = true → DwAll K H xs (Codec.encAll r.args a) →
      sp K Pt xs H (fun v H' => Dw K H' v (r.ret.enc (Codec.app r.args r.f a))) fun _ _ _ => False)
    (hCX : ∀ (H : Hp) (s : Shared) (e : Value) (s' : Shared), CX [] H s (fun _ _ _ => False) e s' → False) :
    PySem.W.WalkOS q loose XP YP r d [] (fun f vs => PySem.call f vs) := by
  intro w s_0 s₁ mg mb G Y fa o pm cd doc dV kV ho hd hcd hD hmg hg args vals as hpre hlay hrd hwl hlo
  obtain ⟨a, e1, e2⟩ := PySem.W.os_pre_some hpre
  obtain ⟨e3, hwi⟩ := Codec.encAll_of_decAll r.args args a e1
  subst e3
  have KX := hY w _ Y
  obtain ⟨fd, c, Pt, ht, nT, hb, hF⟩ := F w mg fa _ Y KX G.T.g hmg
  obtain ⟨hCd, hPt⟩ := PySem.W.tab_of G.T KX hrec ht
  refine PySem.W.enter_call (codeAny_mono (spec_callT (R := []) (cl := classAt s_0.heap) (d0 := r.ret.enc (Codec.app r.args r.f a)) KX G.T.g G.T.b G.T.builtins G.T.nolimit hg hCd hPt nT G.T.bmain hwl (pl_encAll _ _) (layable_weight hlay) hr hF hb (by rw [encAll_len]; exact hlen)
    (fun H xs hO hS => hsp (K w.params) Pt H xs a hO hwi e2 hS) fun H e s' => hCX H s₁ e s') fun r' s' hq => ?_)
  obtain ⟨u, as', rfl, h1, h2, h3, h4⟩ := hq
  exact ⟨.inl ⟨u, _, as', rfl, fun _ => rfl, h1, (OpenSpec.post_iff hwell hwi _ _).mpr rfl, fun z => Bool.noConfusion (show false = true from z)⟩, h2, h3, h4⟩
end L2

namespace Mush
open PySem PySem.Spec PyProof.Rows L2 Kh366
/-- what is written in a heap -/
abbrev Kx {K : PySem.W.Frag} {h : Heap} (_ : K.In h) : PySem.W.Frag := K
section
variable {P : Program} {w : World} {K : PySem.W.Frag} {mg : Str → Option Value} {base : Heap} {C : Addr} {Tt : Tb}
/-! ### answer -/
theorem scAn : FnScope ["shed", "call", "given"] ["shed", "call", "given"] (defScope s_answer) := ⟨rfl, rfl, rfl, by decide +kernel, rfl, by decide +kernel, by decide +kernel⟩
theorem req_nn {p : Int} {gl : List Int} {c : Call} (h : Req p gl c) : 0 ≤ p := by
  cases h <;> decide
theorem dec_pp (a b : Int) : decide (V.int a = V.int b) = decide (a = b) := by
  rw [dec_int, Bool.beq_eq_decide_eq]
theorem ok_answer {f bt : Addr} {fd : FuncData} {fs : List Addr} {k : Nat} (F : Fun K "answer" "answer" s_answer f fd) (T : Txt K mg C) (T2 : Txt2 K mg) (hbt : mg "CALLS" = some (.ref bt)) (hbs : ∀ H : Hp, SqT K H bt (fs.map V.ref))
    (hfs : ∀ p gl c, Req p gl c → ∃ (f : Addr) (fd : FuncData), fs[p.toNat]? = some f ∧ PySem.W.keepIn K (.ref f) = true ∧ FnOk P w K mg base CX0 k f fd ["shed", "given"] (spC C Tt p) ∧ Binds K fd ["shed", "given"] []) :
    FnOk P w K mg base CX0 (k + 1) f fd ["shed", "call", "given"] (spAnswer C Tt) := by
  refine F.ok scAn (fun vs H Q E h => ?_) (fun cdv A outer s H vs Q E hr h => ?_)
  · obtain ⟨x, g, p, gl, c, st, rfl, _⟩ := h
    rfl
  · obtain ⟨x, g, p, gl, c, st, rfl, hreq, hg, hsh, hT, fin⟩ := h
    have h0 := req_nn hreq
    obtain ⟨fp, fdp, e1, e2, e3, e4⟩ := hfs p gl c hreq
    have atp : atI (fs.map V.ref) p = some (.ref fp) := at_of (j := p.toNat) (by omega) (by rw [List.getElem?_map, e1]; rfl)
    refine ⟨_, pss_cons (ps_if (PW.pt (pw_and (pt_cmpR op_ne (pv 1) (pe_gi rfl T2.beg) (nomark _)) (pw_and1 (pt_not (pt_val (pe_fld (pv 0) rfl)))))) (pss_one (ps_ret (pe_lst (pa_cons (pe_gi rfl T.cBeg) pa_nil)))) pss_nil)
      (pss_one (ps_ret (pe_callV (pe_ix ix_tup (pe_glob (v := .ref bt) rfl hbt rfl) (pv 1) (fun _ _ => rfl)) (pa_cons (pv 0) (pa_cons (pv 2) pa_nil))))), ?_⟩
    refine ⟨_, rfl, rfl, _, rfl, ?_⟩
    rw [dec_pp]
    by_cases hp0 : p = 0
    · rw [decide_eq_true hp0]
      exact iteF (iteF ⟨_, rfl, bt, _, _, _, rfl, rfl, hbs H, atp, fp, k, fdp, _, _, rfl, e2, e3, hr, e4, _, rfl, _, rfl, x, g, gl, c, st, rfl, hreq, hg, hsh, fun z => absurd hp0 z, hT, fin⟩)
    · rw [decide_eq_false hp0]
      cases st with
      | none =>
        obtain ⟨dx, w0, u0, ts, hx, hw, hu, hts⟩ := id hsh
        refine iteT ⟨_, rfl, x, C, dx, _, _, rfl, hx, T.cl, T.nB, sh_begun, _, rfl, iteT ⟨(by show 1 ≤ sizeLine; decide), fun q hq => ?_⟩⟩
        rw [doing_none hreq hp0] at fin
        exact answer_new (s := none) (r := (none, say (-61))) fin (Go.refl hT) hsh hq rfl
      | some a =>
        obtain ⟨⟨dx, w0, u0, ts, hx, hw, hu, hts⟩, hG⟩ := id hsh
        exact iteT ⟨_, rfl, x, C, dx, _, _, rfl, hx, T.cl, T.nB, sh_begun, _, rfl, iteF ⟨_, rfl, bt, _, _, _, rfl, rfl, hbs H, atp, fp, k, fdp, _, _, rfl, e2, e3, hr, e4, _, rfl, _, rfl, x, g, gl, c, some a, rfl, hreq, hg, hsh, fun _ => nofun, hT, fin⟩⟩
end
end Mush

namespace Mush
open PySem PySem.Spec PyProof.Rows L2 Kh366
open PySem.W (Codec)
section
variable {K : PySem.W.Frag} {h : Heap} {mg : Str → Option Value}
theorem dn_mk {x : Str} {st : Stmt} {ps : List Str} {f : Addr} {oc : Value} {od an : Option Addr} {sl : Array (Option Value)} {kV dc pm cd ct : Value} (X : K.In h) (G : h.Ns mainGlobals mg)
    (hb : ∀ (kV doc pm : Value) (an : Option Addr) (cdv ct : Value) (us : List Value), us.length = ps.length → bindArgs (PySem.W.fnOf x x (defArgs st) (defBody st) (defScope st) .none kV doc pm an cdv ct) ⟨us, []⟩ = pure (ps.zip us))
    (a : PySem.W.nsIn K mainGlobals x = some (some (.ref f))) (l : K.lookup f = some ⟨oc, od, .func (PySem.W.fnOf x x (defArgs st) (defBody st) (defScope st) .none kV dc pm an cd ct), sl⟩) (c : PySem.W.codeIn K cd x = true) (k : PySem.W.keepIn K (.ref f) = true) :
    ∃ (f : Addr) (fd : FuncData), Dn K mg x st ps f fd :=
  have F := fun_mk (st := st) l c k
  ⟨f, _, F, PySem.W.mg_of X G a, F.binds hb, fun s us hu => .of_eq (hb _ _ _ _ _ _ us hu)⟩
/-- a method of the class -/
structure Mt (K : PySem.W.Frag) (C : Addr) (m q : Str) (st : Stmt) (ps : List Str) (f : Addr) (fd : FuncData) : Prop where
  fn : Fun K m q st f fd
  bd : Binds K fd ps []
  mt : Meth K C m f
theorem mt_mk {C : Addr} {m q : Str} {st : Stmt} {ps : List Str} {f : Addr} {oc : Value} {od an : Option Addr} {sl : Array (Option Value)} {kV dc pm cd ct : Value}
    (hb : ∀ (kV doc pm : Value) (an : Option Addr) (cdv ct : Value) (us : List Value), us.length = ps.length → bindArgs (PySem.W.fnOf m q (defArgs st) (defBody st) (defScope st) .none kV doc pm an cdv ct) ⟨us, []⟩ = pure (ps.zip us))
    (a : PySem.W.findIn K (.ref C) m = some (some (.ref f))) (i : PySem.W.isFn K (.ref f) = true) (l : K.lookup f = some ⟨oc, od, .func (PySem.W.fnOf m q (defArgs st) (defBody st) (defScope st) .none kV dc pm an cd ct), sl⟩) (c : PySem.W.codeIn K cd q = true) (k : PySem.W.keepIn K (.ref f) = true) :
    ∃ (f : Addr) (fd : FuncData), Mt K C m q st ps f fd :=
  have F := fun_mk (st := st) l c k
  ⟨f, _, F, F.binds hb, a, i, k⟩
theorem ci_mk {x : Str} {i : Int} {t : Tok} (X : K.In h) (G : h.Ns mainGlobals mg) (a : PySem.W.nsIn K mainGlobals x = some (some (.int i t))) : ∃ t, mg x = some (.int i t) := ⟨t, PySem.W.mg_of X G a⟩

def NbP (K : PySem.W.Frag) (mg : Str → Option Value) : Prop := ∃ b, mg "NUMBERS_BEHIND" = some (.ref b) ∧ ∀ H : Hp, SqT K H b (behindL.map V.int)
def BuiltP (K : PySem.W.Frag) (mg : Str → Option Value) : Prop := ∃ (b : Addr) (fs : List Addr), mg "CALLS" = some (.ref b) ∧ (∀ H : Hp, SqT K H b (fs.map V.ref)) ∧ Paired (fun (n : Str) f => mg n = some (.ref f)) ["call_begin", "call_cap", "call_out", "call_width", "call_each", "call_differ", "call_back", "call_count", "call_punnet", "call_which", "call_left", "call_is_one", "call_spread", "call_if_differ", "call_if_each", "call_least", "call_more", "call_best_more", "call_needed", "call_order", "call_state"] fs
theorem tup_NUMBERS_BEHIND {b : Addr} {od : Option Addr} {n : Nat} {sl : Array (Option Value)} {t0 t1 t2 t3 t4 t5 t6 t7 t8 t9 t10 t11 t12 t13 t14 t15 t16 t17 t18 t19 t20 : Tok} (X : K.In h) (G : h.Ns mainGlobals mg) (a : PySem.W.nsIn K mainGlobals "NUMBERS_BEHIND" = some (some (.ref b)))
    (l : K.lookup b = some ⟨.type "tuple", od, .seq #[.int 2 t0, .int 1 t1, .int 1 t2, .int 2 t3, .int 1 t4, .int 1 t5, .int 0 t6, .int 0 t7, .int 1 t8, .int 1 t9, .int 0 t10, .int 0 t11, .int 1 t12, .int 1 t13, .int 1 t14, .int 1 t15, .int 1 t16, .int 0 t17, .int 0 t18, .int 0 t19, .int 0 t20] n, sl⟩) : NbP K mg :=
  ⟨b, PySem.W.mg_of X G a, fun H => .inr ⟨_, _, n, l, rfl, rfl, by show 21 ≤ sizeLine; decide, .cons ⟨t0, rfl⟩ (.cons ⟨t1, rfl⟩ (.cons ⟨t2, rfl⟩ (.cons ⟨t3, rfl⟩ (.cons ⟨t4, rfl⟩ (.cons ⟨t5, rfl⟩ (.cons ⟨t6, rfl⟩ (.cons ⟨t7, rfl⟩ (.cons ⟨t8, rfl⟩ (.cons ⟨t9, rfl⟩ (.cons ⟨t10, rfl⟩ (.cons ⟨t11, rfl⟩ (.cons ⟨t12, rfl⟩ (.cons ⟨t13, rfl⟩ (.cons ⟨t14, rfl⟩ (.cons ⟨t15, rfl⟩ (.cons ⟨t16, rfl⟩ (.cons ⟨t17, rfl⟩ (.cons ⟨t18, rfl⟩ (.cons ⟨t19, rfl⟩ (.cons ⟨t20, rfl⟩ .nil))))))))))))))))))))⟩⟩
theorem tup_CALLS {b f0 f1 f2 f3 f4 f5 f6 f7 f8 f9 f10 f11 f12 f13 f14 f15 f16 f17 f18 f19 f20 : Addr} {od : Option Addr} {n : Nat} {sl : Array (Option Value)} (X : K.In h) (G : h.Ns mainGlobals mg)
    (a0 : PySem.W.nsIn K mainGlobals "call_begin" = some (some (.ref f0))) (a1 : PySem.W.nsIn K mainGlobals "call_cap" = some (some (.ref f1))) (a2 : PySem.W.nsIn K mainGlobals "call_out" = some (some (.ref f2))) (a3 : PySem.W.nsIn K mainGlobals "call_width" = some (some (.ref f3))) (a4 : PySem.W.nsIn K mainGlobals "call_each" = some (some (.ref f4))) (a5 : PySem.W.nsIn K mainGlobals "call_differ" = some (some (.ref f5))) (a6 : PySem.W.nsIn K mainGlobals "call_back" = some (some (.ref f6))) (a7 : PySem.W.nsIn K mainGlobals "call_count" = some (some (.ref f7))) (a8 : PySem.W.nsIn K mainGlobals "call_punnet" = some (some (.ref f8))) (a9 : PySem.W.nsIn K mainGlobals "call_which" = some (some (.ref f9))) (a10 : PySem.W.nsIn K mainGlobals "call_left" = some (some (.ref f10))) (a11 : PySem.W.nsIn K mainGlobals "call_is_one" = some (some (.ref f11))) (a12 : PySem.W.nsIn K mainGlobals "call_spread" = some (some (.ref f12))) (a13 : PySem.W.nsIn K mainGlobals "call_if_differ" = some (some (.ref f13))) (a14 : PySem.W.nsIn K mainGlobals "call_if_each" = some (some (.ref f14))) (a15 : PySem.W.nsIn K mainGlobals "call_least" = some (some (.ref f15))) (a16 : PySem.W.nsIn K mainGlobals "call_more" = some (some (.ref f16))) (a17 : PySem.W.nsIn K mainGlobals "call_best_more" = some (some (.ref f17))) (a18 : PySem.W.nsIn K mainGlobals "call_needed" = some (some (.ref f18))) (a19 : PySem.W.nsIn K mainGlobals "call_order" = some (some (.ref f19))) (a20 : PySem.W.nsIn K mainGlobals "call_state" = some (some (.ref f20)))
    (a : PySem.W.nsIn K mainGlobals "CALLS" = some (some (.ref b))) (l : K.lookup b = some ⟨.type "tuple", od, .seq #[.ref f0, .ref f1, .ref f2, .ref f3, .ref f4, .ref f5, .ref f6, .ref f7, .ref f8, .ref f9, .ref f10, .ref f11, .ref f12, .ref f13, .ref f14, .ref f15, .ref f16, .ref f17, .ref f18, .ref f19, .ref f20] n, sl⟩) :
    BuiltP K mg :=
  ⟨b, [f0, f1, f2, f3, f4, f5, f6, f7, f8, f9, f10, f11, f12, f13, f14, f15, f16, f17, f18, f19, f20], PySem.W.mg_of X G a, fun H => .inr ⟨_, _, n, l, rfl, rfl, by show 21 ≤ sizeLine; decide, .cons rfl (.cons rfl (.cons rfl (.cons rfl (.cons rfl (.cons rfl (.cons rfl (.cons rfl (.cons rfl (.cons rfl (.cons rfl (.cons rfl (.cons rfl (.cons rfl (.cons rfl (.cons rfl (.cons rfl (.cons rfl (.cons rfl (.cons rfl (.cons rfl .nil))))))))))))))))))))⟩, .cons (PySem.W.mg_of X G a0) (.cons (PySem.W.mg_of X G a1) (.cons (PySem.W.mg_of X G a2) (.cons (PySem.W.mg_of X G a3) (.cons (PySem.W.mg_of X G a4) (.cons (PySem.W.mg_of X G a5) (.cons (PySem.W.mg_of X G a6) (.cons (PySem.W.mg_of X G a7) (.cons (PySem.W.mg_of X G a8) (.cons (PySem.W.mg_of X G a9) (.cons (PySem.W.mg_of X G a10) (.cons (PySem.W.mg_of X G a11) (.cons (PySem.W.mg_of X G a12) (.cons (PySem.W.mg_of X G a13) (.cons (PySem.W.mg_of X G a14) (.cons (PySem.W.mg_of X G a15) (.cons (PySem.W.mg_of X G a16) (.cons (PySem.W.mg_of X G a17) (.cons (PySem.W.mg_of X G a18) (.cons (PySem.W.mg_of X G a19) (.cons (PySem.W.mg_of X G a20) .nil))))))))))))))))))))⟩
end
end Mush

namespace Mush
open PySem PySem.Spec PyProof.Rows L2 Kh366
open PySem.W (Codec)
def InRowP (K : PySem.W.Frag) (mg : Str → Option Value) : Prop := ∃ (f c Pt : Addr) (fd : FuncData), PySem.W.tabIn K "in_row" = some (c, Pt) ∧ Dn K mg "in_row" s_in_row ["widths"] f fd ∧ ∀ (P : Program) (w : World) (base : Heap) (C : Addr), Txt K mg C → LamBase base mg c Pt → FnOk P w K mg base CX0 3 f fd ["widths"] (spInRow ⟨Pt, inRowPos, inRowQ⟩)
def ShedP (K : PySem.W.Frag) (mg : Str → Option Value) : Prop := ∃ C, Txt K mg C ∧ PySem.W.makesIn K C = true ∧ PySem.W.keepIn K (.ref C) = true ∧ (∃ f fd, Mt K C "__init__" "Shed.__init__" s_Shed_init ["self"] f fd) ∧ (∃ f fd, Mt K C "set_up" "Shed.set_up" s_Shed_set_up ["self", "each", "differ"] f fd) ∧
      (∃ f fd, Mt K C "change" "Shed.change" s_Shed_change ["self", "each", "differ", "widths"] f fd) ∧ ∃ f fd, Mt K C "take_back" "Shed.take_back" s_Shed_take_back ["self"] f fd
section
variable {K : PySem.W.Frag} {h : Heap} {mg : Str → Option Value}
theorem inrow_mk {f c Pt : Addr} {oc : Value} {od an : Option Addr} {sl : Array (Option Value)} {kV dc pm ct : Value} (X : K.In h) (G : h.Ns mainGlobals mg) (a : PySem.W.nsIn K mainGlobals "in_row" = some (some (.ref f)))
    (l : K.lookup f = some ⟨oc, od, .func (PySem.W.fnOf "in_row" "in_row" (defArgs s_in_row) (defBody s_in_row) (defScope s_in_row) .none kV dc pm an (.ref c) ct), sl⟩) (cd : PySem.W.codeIn K (.ref c) "in_row" = true) (k : PySem.W.keepIn K (.ref f) = true)
    {oc2 : Value} {od2 : Option Addr} {sl2 : Array (Option Value)} {vs : Array Value} (lc : K.lookup c = some ⟨oc2, od2, .fields vs, sl2⟩) (hv : vs[11]? = some (.ref Pt)) : InRowP K mg :=
  have t : PySem.W.tabIn K "in_row" = some (c, Pt) := by
    unfold PySem.W.tabIn
    rw [a]
    dsimp only
    rw [l]
    dsimp only [PySem.W.fnOf]
    rw [lc]
    dsimp only
    rw [hv]
  have F := fun_mk (st := s_in_row) l cd k
  ⟨f, c, Pt, _, t, ⟨F, PySem.W.mg_of X G a, F.binds (fun _ _ _ _ _ _ us hl => match us, hl with | [_], _ => rfl), fun s us hu => match us, hu with | [_], _ => .of_eq rfl⟩, fun P w base C T B => ok_in_row l cd T B⟩
theorem shed_mk {C : Addr} (X : K.In h) (G : h.Ns mainGlobals mg) (aC : PySem.W.nsIn K mainGlobals "Shed" = some (some (.ref C)))
    (pg : PySem.W.plainGet K C Str.empty = true) (hd : PySem.W.hasDictIn K C = true) (po : PySem.W.plainOver K C = true) (sa : PySem.W.findIn K (.ref C) "__setattr__" = some (some (.builtin "object.__setattr__"))) (mk : PySem.W.makesIn K C = true) (kc : PySem.W.keepIn K (.ref C) = true)
    (nB : PySem.W.findIn K (.ref C) "begun" = some none) (nE : PySem.W.findIn K (.ref C) "each" = some none) (nD : PySem.W.findIn K (.ref C) "differ" = some none) (nW : PySem.W.findIn K (.ref C) "widths" = some none) (nU : PySem.W.findIn K (.ref C) "earlier" = some none)
    (m1 : ∃ f fd, Mt K C "__init__" "Shed.__init__" s_Shed_init ["self"] f fd) (m2 : ∃ f fd, Mt K C "set_up" "Shed.set_up" s_Shed_set_up ["self", "each", "differ"] f fd)
    (m3 : ∃ f fd, Mt K C "change" "Shed.change" s_Shed_change ["self", "each", "differ", "widths"] f fd) (m4 : ∃ f fd, Mt K C "take_back" "Shed.take_back" s_Shed_take_back ["self"] f fd)
    (b1 : PySem.W.nsIn K mainGlobals "len" = some none) (b2 : PySem.W.nsIn K mainGlobals "range" = some none) (b3 : PySem.W.nsIn K mainGlobals "sorted" = some none) (b4 : PySem.W.nsIn K mainGlobals "enumerate" = some none) (b5 : PySem.W.nsIn K mainGlobals "max" = some none) (b6 : PySem.W.nsIn K mainGlobals "min" = some none) (b7 : PySem.W.nsIn K mainGlobals "set" = some none)
    (i1 : ∃ t, mg "MOST_MUSHROOMS" = some (.int 24 t)) (i2 : ∃ t, mg "MOST_WIDE" = some (.int 100 t)) (i3 : ∃ t, mg "MOST_EACH" = some (.int 6 t)) (i4 : ∃ t, mg "MOST_DIFFER" = some (.int 50 t)) (i5 : ∃ t, mg "MOST_TAKEN_BACK" = some (.int 10 t))
    (i6 : ∃ t, mg "NO_MUSHROOM" = some (.int (-2) t)) (i7 : ∃ t, mg "NOTHING_TO_TAKE_BACK" = some (.int (-2) t)) (i8 : ∃ t, mg "THAT_ALREADY" = some (.int (-17) t)) (i9 : ∃ t, mg "NOT_AS_TOLD" = some (.int (-22) t))
    (j1 : ∃ t, mg "NO_ROOM" = some (.int (-28) t)) (j2 : ∃ t, mg "NO_PUNNET" = some (.int (-33) t)) (j3 : ∃ t, mg "NOT_BEGUN" = some (.int (-61) t))
    (j4 : ∃ t, mg "MOST_DIFFER_ASKED" = some (.int 100 t)) (j5 : ∃ t, mg "NO_DIFFERENCE" = some (.int (-33) t)) :
    ShedP K mg :=
  ⟨C, ⟨⟨pg, hd, po, sa⟩, nB, nE, nD, nW, nU, PySem.W.mg_of X G aC, PySem.W.mg_none_of X G b1, PySem.W.mg_none_of X G b2, PySem.W.mg_none_of X G b3, PySem.W.mg_none_of X G b4, i1, i2, i3, i4, i5, i6, i7, i8, i9, j1, j2, j3, PySem.W.mg_none_of X G b5, PySem.W.mg_none_of X G b6, PySem.W.mg_none_of X G b7, j4, j5⟩, mk, kc, m1, m2, m3, m4⟩
end
theorem table_hit {mg : Str → Option Value} {names : List Str} {fs : List Addr} (h : Paired (fun (n : Str) f => mg n = some (.ref f)) names fs) {i : Nat} {n : Str} {f : Addr} (e : names[i]? = some n) (hm : mg n = some (.ref f)) : fs[i]? = some f := by
  obtain ⟨f', h1, h2⟩ := Paired.at_ h e
  rw [hm] at h2
  cases h2
  exact h1
end Mush
open PySem PySem.W PyProof.Rows
set_option maxRecDepth 100000 in
set_option maxHeartbeats 0 in
theorem PySem.Challenge.cw_mushpunnets_s01_answers_holds : PySem.Challenge.rw_mushpunnets_s01_answers.Holds := by
  w_on; k_headS; (case hw => exact ⟨[.list [.int 6]], by decide +kernel, by decide +kernel⟩)
  k_fillS
  refine L2.walk_specT (r := PySem.Challenge.rw_mushpunnets_s01_answers) (k := 9) (CX := L2.CX0) (ps := ["calls"]) (x := "in_row") (sp := fun K Pt => Mush.spAnswers K ⟨Pt, Mush.inRowPos, Mush.inRowQ⟩) (by decide +kernel) rfl rfl ⟨rfl, by decide, by decide⟩ rfl (fun w h Y => PySem.W.kIn_of Y) ?F ?S (fun _ _ _ _ z => z)
  case F =>
    intro w mg fa h Y KX G hmg
    have d_is_width : ∃ f fd, Mush.Dn (Mush.Kx KX) mg "is_width" Mush.s_is_width ["width"] f fd := by
      dsimp only [Mush.Kx]
      refine' Mush.dn_mk KX G (fun _ _ _ _ _ _ us hl => match us, hl with | [_], _ => rfl) ?a ?l ?c ?k
      (case a => k_is); (case l => k_is); (case c => k_is); (case k => k_is)
    have d_is_each : ∃ f fd, Mush.Dn (Mush.Kx KX) mg "is_each" Mush.s_is_each ["each"] f fd := by
      dsimp only [Mush.Kx]
      refine' Mush.dn_mk KX G (fun _ _ _ _ _ _ us hl => match us, hl with | [_], _ => rfl) ?a ?l ?c ?k
      (case a => k_is); (case l => k_is); (case c => k_is); (case k => k_is)
    have d_is_differ : ∃ f fd, Mush.Dn (Mush.Kx KX) mg "is_differ" Mush.s_is_differ ["differ"] f fd := by
      dsimp only [Mush.Kx]
      refine' Mush.dn_mk KX G (fun _ _ _ _ _ _ us hl => match us, hl with | [_], _ => rfl) ?a ?l ?c ?k
      (case a => k_is); (case l => k_is); (case c => k_is); (case k => k_is)
    have d_is_mushroom : ∃ f fd, Mush.Dn (Mush.Kx KX) mg "is_mushroom" Mush.s_is_mushroom ["shed", "i"] f fd := by
      dsimp only [Mush.Kx]
      refine' Mush.dn_mk KX G (fun _ _ _ _ _ _ us hl => match us, hl with | [_, _], _ => rfl) ?a ?l ?c ?k
      (case a => k_is); (case l => k_is); (case c => k_is); (case k => k_is)
    have d_spread_of : ∃ f fd, Mush.Dn (Mush.Kx KX) mg "spread_of" Mush.s_spread_of ["widths", "mushrooms"] f fd := by
      dsimp only [Mush.Kx]
      refine' Mush.dn_mk KX G (fun _ _ _ _ _ _ us hl => match us, hl with | [_, _], _ => rfl) ?a ?l ?c ?k
      (case a => k_is); (case l => k_is); (case c => k_is); (case k => k_is)
    have d_packed : ∃ f fd, Mush.Dn (Mush.Kx KX) mg "packed" Mush.s_packed ["widths", "each", "differ"] f fd := by
      dsimp only [Mush.Kx]
      refine' Mush.dn_mk KX G (fun _ _ _ _ _ _ us hl => match us, hl with | [_, _, _], _ => rfl) ?a ?l ?c ?k
      (case a => k_is); (case l => k_is); (case c => k_is); (case k => k_is)
    have d_packed_in : ∃ f fd, Mush.Dn (Mush.Kx KX) mg "packed_in" Mush.s_packed_in ["shed"] f fd := by
      dsimp only [Mush.Kx]
      refine' Mush.dn_mk KX G (fun _ _ _ _ _ _ us hl => match us, hl with | [_], _ => rfl) ?a ?l ?c ?k
      (case a => k_is); (case l => k_is); (case c => k_is); (case k => k_is)
    have d_how_many : ∃ f fd, Mush.Dn (Mush.Kx KX) mg "how_many" Mush.s_how_many ["widths", "each", "differ"] f fd := by
      dsimp only [Mush.Kx]
      refine' Mush.dn_mk KX G (fun _ _ _ _ _ _ us hl => match us, hl with | [_, _, _], _ => rfl) ?a ?l ?c ?k
      (case a => k_is); (case l => k_is); (case c => k_is); (case k => k_is)
    have d_how_many_with : ∃ f fd, Mush.Dn (Mush.Kx KX) mg "how_many_with" Mush.s_how_many_with ["shed", "width"] f fd := by
      dsimp only [Mush.Kx]
      refine' Mush.dn_mk KX G (fun _ _ _ _ _ _ us hl => match us, hl with | [_, _], _ => rfl) ?a ?l ?c ?k
      (case a => k_is); (case l => k_is); (case c => k_is); (case k => k_is)
    have d_how_many_without : ∃ f fd, Mush.Dn (Mush.Kx KX) mg "how_many_without" Mush.s_how_many_without ["shed", "i"] f fd := by
      dsimp only [Mush.Kx]
      refine' Mush.dn_mk KX G (fun _ _ _ _ _ _ us hl => match us, hl with | [_, _], _ => rfl) ?a ?l ?c ?k
      (case a => k_is); (case l => k_is); (case c => k_is); (case k => k_is)
    have d_punnet_with : ∃ f fd, Mush.Dn (Mush.Kx KX) mg "punnet_with" Mush.s_punnet_with ["punnets", "i"] f fd := by
      dsimp only [Mush.Kx]
      refine' Mush.dn_mk KX G (fun _ _ _ _ _ _ us hl => match us, hl with | [_, _], _ => rfl) ?a ?l ?c ?k
      (case a => k_is); (case l => k_is); (case c => k_is); (case k => k_is)
    have d_call_begin : ∃ f fd, Mush.Dn (Mush.Kx KX) mg "call_begin" Mush.s_call_begin ["shed", "given"] f fd := by
      dsimp only [Mush.Kx]
      refine' Mush.dn_mk KX G (fun _ _ _ _ _ _ us hl => match us, hl with | [_, _], _ => rfl) ?a ?l ?c ?k
      (case a => k_is); (case l => k_is); (case c => k_is); (case k => k_is)
    have d_call_cap : ∃ f fd, Mush.Dn (Mush.Kx KX) mg "call_cap" Mush.s_call_cap ["shed", "given"] f fd := by
      dsimp only [Mush.Kx]
      refine' Mush.dn_mk KX G (fun _ _ _ _ _ _ us hl => match us, hl with | [_, _], _ => rfl) ?a ?l ?c ?k
      (case a => k_is); (case l => k_is); (case c => k_is); (case k => k_is)
    have d_call_out : ∃ f fd, Mush.Dn (Mush.Kx KX) mg "call_out" Mush.s_call_out ["shed", "given"] f fd := by
      dsimp only [Mush.Kx]
      refine' Mush.dn_mk KX G (fun _ _ _ _ _ _ us hl => match us, hl with | [_, _], _ => rfl) ?a ?l ?c ?k
      (case a => k_is); (case l => k_is); (case c => k_is); (case k => k_is)
    have d_call_width : ∃ f fd, Mush.Dn (Mush.Kx KX) mg "call_width" Mush.s_call_width ["shed", "given"] f fd := by
      dsimp only [Mush.Kx]
      refine' Mush.dn_mk KX G (fun _ _ _ _ _ _ us hl => match us, hl with | [_, _], _ => rfl) ?a ?l ?c ?k
      (case a => k_is); (case l => k_is); (case c => k_is); (case k => k_is)
    have d_call_each : ∃ f fd, Mush.Dn (Mush.Kx KX) mg "call_each" Mush.s_call_each ["shed", "given"] f fd := by
      dsimp only [Mush.Kx]
      refine' Mush.dn_mk KX G (fun _ _ _ _ _ _ us hl => match us, hl with | [_, _], _ => rfl) ?a ?l ?c ?k
      (case a => k_is); (case l => k_is); (case c => k_is); (case k => k_is)
    have d_call_differ : ∃ f fd, Mush.Dn (Mush.Kx KX) mg "call_differ" Mush.s_call_differ ["shed", "given"] f fd := by
      dsimp only [Mush.Kx]
      refine' Mush.dn_mk KX G (fun _ _ _ _ _ _ us hl => match us, hl with | [_, _], _ => rfl) ?a ?l ?c ?k
      (case a => k_is); (case l => k_is); (case c => k_is); (case k => k_is)
    have d_call_back : ∃ f fd, Mush.Dn (Mush.Kx KX) mg "call_back" Mush.s_call_back ["shed", "given"] f fd := by
      dsimp only [Mush.Kx]
      refine' Mush.dn_mk KX G (fun _ _ _ _ _ _ us hl => match us, hl with | [_, _], _ => rfl) ?a ?l ?c ?k
      (case a => k_is); (case l => k_is); (case c => k_is); (case k => k_is)
    have d_call_count : ∃ f fd, Mush.Dn (Mush.Kx KX) mg "call_count" Mush.s_call_count ["shed", "given"] f fd := by
      dsimp only [Mush.Kx]
      refine' Mush.dn_mk KX G (fun _ _ _ _ _ _ us hl => match us, hl with | [_, _], _ => rfl) ?a ?l ?c ?k
      (case a => k_is); (case l => k_is); (case c => k_is); (case k => k_is)
    have d_call_punnet : ∃ f fd, Mush.Dn (Mush.Kx KX) mg "call_punnet" Mush.s_call_punnet ["shed", "given"] f fd := by
      dsimp only [Mush.Kx]
      refine' Mush.dn_mk KX G (fun _ _ _ _ _ _ us hl => match us, hl with | [_, _], _ => rfl) ?a ?l ?c ?k
      (case a => k_is); (case l => k_is); (case c => k_is); (case k => k_is)
    have d_call_which : ∃ f fd, Mush.Dn (Mush.Kx KX) mg "call_which" Mush.s_call_which ["shed", "given"] f fd := by
      dsimp only [Mush.Kx]
      refine' Mush.dn_mk KX G (fun _ _ _ _ _ _ us hl => match us, hl with | [_, _], _ => rfl) ?a ?l ?c ?k
      (case a => k_is); (case l => k_is); (case c => k_is); (case k => k_is)
    have d_call_left : ∃ f fd, Mush.Dn (Mush.Kx KX) mg "call_left" Mush.s_call_left ["shed", "given"] f fd := by
      dsimp only [Mush.Kx]
      refine' Mush.dn_mk KX G (fun _ _ _ _ _ _ us hl => match us, hl with | [_, _], _ => rfl) ?a ?l ?c ?k
      (case a => k_is); (case l => k_is); (case c => k_is); (case k => k_is)
    have d_call_is_one : ∃ f fd, Mush.Dn (Mush.Kx KX) mg "call_is_one" Mush.s_call_is_one ["shed", "given"] f fd := by
      dsimp only [Mush.Kx]
      refine' Mush.dn_mk KX G (fun _ _ _ _ _ _ us hl => match us, hl with | [_, _], _ => rfl) ?a ?l ?c ?k
      (case a => k_is); (case l => k_is); (case c => k_is); (case k => k_is)
    have d_call_spread : ∃ f fd, Mush.Dn (Mush.Kx KX) mg "call_spread" Mush.s_call_spread ["shed", "given"] f fd := by
      dsimp only [Mush.Kx]
      refine' Mush.dn_mk KX G (fun _ _ _ _ _ _ us hl => match us, hl with | [_, _], _ => rfl) ?a ?l ?c ?k
      (case a => k_is); (case l => k_is); (case c => k_is); (case k => k_is)
    have d_call_if_differ : ∃ f fd, Mush.Dn (Mush.Kx KX) mg "call_if_differ" Mush.s_call_if_differ ["shed", "given"] f fd := by
      dsimp only [Mush.Kx]
      refine' Mush.dn_mk KX G (fun _ _ _ _ _ _ us hl => match us, hl with | [_, _], _ => rfl) ?a ?l ?c ?k
      (case a => k_is); (case l => k_is); (case c => k_is); (case k => k_is)
    have d_call_if_each : ∃ f fd, Mush.Dn (Mush.Kx KX) mg "call_if_each" Mush.s_call_if_each ["shed", "given"] f fd := by
      dsimp only [Mush.Kx]
      refine' Mush.dn_mk KX G (fun _ _ _ _ _ _ us hl => match us, hl with | [_, _], _ => rfl) ?a ?l ?c ?k
      (case a => k_is); (case l => k_is); (case c => k_is); (case k => k_is)
    have d_call_least : ∃ f fd, Mush.Dn (Mush.Kx KX) mg "call_least" Mush.s_call_least ["shed", "given"] f fd := by
      dsimp only [Mush.Kx]
      refine' Mush.dn_mk KX G (fun _ _ _ _ _ _ us hl => match us, hl with | [_, _], _ => rfl) ?a ?l ?c ?k
      (case a => k_is); (case l => k_is); (case c => k_is); (case k => k_is)
    have d_call_more : ∃ f fd, Mush.Dn (Mush.Kx KX) mg "call_more" Mush.s_call_more ["shed", "given"] f fd := by
      dsimp only [Mush.Kx]
      refine' Mush.dn_mk KX G (fun _ _ _ _ _ _ us hl => match us, hl with | [_, _], _ => rfl) ?a ?l ?c ?k
      (case a => k_is); (case l => k_is); (case c => k_is); (case k => k_is)
    have d_call_best_more : ∃ f fd, Mush.Dn (Mush.Kx KX) mg "call_best_more" Mush.s_call_best_more ["shed", "given"] f fd := by
      dsimp only [Mush.Kx]
      refine' Mush.dn_mk KX G (fun _ _ _ _ _ _ us hl => match us, hl with | [_, _], _ => rfl) ?a ?l ?c ?k
      (case a => k_is); (case l => k_is); (case c => k_is); (case k => k_is)
    have d_call_needed : ∃ f fd, Mush.Dn (Mush.Kx KX) mg "call_needed" Mush.s_call_needed ["shed", "given"] f fd := by
      dsimp only [Mush.Kx]
      refine' Mush.dn_mk KX G (fun _ _ _ _ _ _ us hl => match us, hl with | [_, _], _ => rfl) ?a ?l ?c ?k
      (case a => k_is); (case l => k_is); (case c => k_is); (case k => k_is)
    have d_call_order : ∃ f fd, Mush.Dn (Mush.Kx KX) mg "call_order" Mush.s_call_order ["shed", "given"] f fd := by
      dsimp only [Mush.Kx]
      refine' Mush.dn_mk KX G (fun _ _ _ _ _ _ us hl => match us, hl with | [_, _], _ => rfl) ?a ?l ?c ?k
      (case a => k_is); (case l => k_is); (case c => k_is); (case k => k_is)
    have d_call_state : ∃ f fd, Mush.Dn (Mush.Kx KX) mg "call_state" Mush.s_call_state ["shed", "given"] f fd := by
      dsimp only [Mush.Kx]
      refine' Mush.dn_mk KX G (fun _ _ _ _ _ _ us hl => match us, hl with | [_, _], _ => rfl) ?a ?l ?c ?k
      (case a => k_is); (case l => k_is); (case c => k_is); (case k => k_is)
    have d_end_of_call : ∃ f fd, Mush.Dn (Mush.Kx KX) mg "end_of_call" Mush.s_end_of_call ["calls", "start"] f fd := by
      dsimp only [Mush.Kx]
      refine' Mush.dn_mk KX G (fun _ _ _ _ _ _ us hl => match us, hl with | [_, _], _ => rfl) ?a ?l ?c ?k
      (case a => k_is); (case l => k_is); (case c => k_is); (case k => k_is)
    have d_answer : ∃ f fd, Mush.Dn (Mush.Kx KX) mg "answer" Mush.s_answer ["shed", "call", "given"] f fd := by
      dsimp only [Mush.Kx]
      refine' Mush.dn_mk KX G (fun _ _ _ _ _ _ us hl => match us, hl with | [_, _, _], _ => rfl) ?a ?l ?c ?k
      (case a => k_is); (case l => k_is); (case c => k_is); (case k => k_is)
    have d_answers : ∃ f fd, Mush.Dn (Mush.Kx KX) mg "answers" Mush.s_answers ["calls"] f fd := by
      dsimp only [Mush.Kx]
      refine' Mush.dn_mk KX G (fun _ _ _ _ _ _ us hl => match us, hl with | [_], _ => rfl) ?a ?l ?c ?k
      (case a => k_is); (case l => k_is); (case c => k_is); (case k => k_is)
    have d_in_row : Mush.InRowP (Mush.Kx KX) mg := by
      dsimp only [Mush.Kx]
      refine' Mush.inrow_mk KX G ?a ?l ?c ?k ?lc ?hv
      (case a => k_is); (case l => k_is); (case c => k_is); (case k => k_is); (case lc => k_is); (case hv => exact rfl)
    have d_shed : Mush.ShedP (Mush.Kx KX) mg := by
      dsimp only [Mush.Kx]
      refine' Mush.shed_mk KX G ?aC ?pg ?hd ?po ?sa ?mk ?kc ?nB ?nE ?nD ?nW ?nU ?m1 ?m2 ?m3 ?m4 ?b1 ?b2 ?b3 ?b4 ?b5 ?b6 ?b7 ?i1 ?i2 ?i3 ?i4 ?i5 ?i6 ?i7 ?i8 ?i9 ?j1 ?j2 ?j3 ?j4 ?j5
      (case aC => k_is); (case pg => k_is); (case hd => k_is); (case po => k_is); (case sa => k_is); (case mk => k_is); (case kc => k_is); (case nB => k_is); (case nE => k_is); (case nD => k_is); (case nW => k_is); (case nU => k_is)
      (case m1 => (refine' Mush.mt_mk (fun _ _ _ _ _ _ us hl => match us, hl with | [_], _ => rfl) ?a ?i ?l ?c ?k; (case a => k_is); (case i => k_is); (case l => k_is); (case c => k_is); (case k => k_is)))
      (case m2 => (refine' Mush.mt_mk (fun _ _ _ _ _ _ us hl => match us, hl with | [_, _, _], _ => rfl) ?a ?i ?l ?c ?k; (case a => k_is); (case i => k_is); (case l => k_is); (case c => k_is); (case k => k_is)))
      (case m3 => (refine' Mush.mt_mk (fun _ _ _ _ _ _ us hl => match us, hl with | [_, _, _, _], _ => rfl) ?a ?i ?l ?c ?k; (case a => k_is); (case i => k_is); (case l => k_is); (case c => k_is); (case k => k_is)))
      (case m4 => (refine' Mush.mt_mk (fun _ _ _ _ _ _ us hl => match us, hl with | [_], _ => rfl) ?a ?i ?l ?c ?k; (case a => k_is); (case i => k_is); (case l => k_is); (case c => k_is); (case k => k_is)))
      (case b1 => k_is); (case b2 => k_is); (case b3 => k_is); (case b4 => k_is); (case b5 => k_is); (case b6 => k_is); (case b7 => k_is)
      (case i1 => (refine' Mush.ci_mk KX G ?a; (case a => k_is))); (case i2 => (refine' Mush.ci_mk KX G ?a; (case a => k_is))); (case i3 => (refine' Mush.ci_mk KX G ?a; (case a => k_is))); (case i4 => (refine' Mush.ci_mk KX G ?a; (case a => k_is))); (case i5 => (refine' Mush.ci_mk KX G ?a; (case a => k_is))); (case i6 => (refine' Mush.ci_mk KX G ?a; (case a => k_is))); (case i7 => (refine' Mush.ci_mk KX G ?a; (case a => k_is))); (case i8 => (refine' Mush.ci_mk KX G ?a; (case a => k_is))); (case i9 => (refine' Mush.ci_mk KX G ?a; (case a => k_is))); (case j1 => (refine' Mush.ci_mk KX G ?a; (case a => k_is))); (case j2 => (refine' Mush.ci_mk KX G ?a; (case a => k_is))); (case j3 => (refine' Mush.ci_mk KX G ?a; (case a => k_is))); (case j4 => (refine' Mush.ci_mk KX G ?a; (case a => k_is))); (case j5 => (refine' Mush.ci_mk KX G ?a; (case a => k_is)))
    have d_one : ∃ t, mg "IS_ONE" = some (.int 11 t) := by
      refine' Mush.ci_mk KX G ?a
      (case a => k_is)
    have d_beg : ∃ t, mg "BEGIN" = some (.int 0 t) := by
      refine' Mush.ci_mk KX G ?a
      (case a => k_is)
    have d_nb : Mush.NbP (Mush.Kx KX) mg := by
      dsimp only [Mush.Kx]
      refine' Mush.tup_NUMBERS_BEHIND KX G ?a ?l
      (case a => k_is); (case l => k_is)
    have d_built : Mush.BuiltP (Mush.Kx KX) mg := by
      dsimp only [Mush.Kx]
      refine' Mush.tup_CALLS KX G ?a0 ?a1 ?a2 ?a3 ?a4 ?a5 ?a6 ?a7 ?a8 ?a9 ?a10 ?a11 ?a12 ?a13 ?a14 ?a15 ?a16 ?a17 ?a18 ?a19 ?a20 ?a ?l
      (case a0 => k_is); (case a1 => k_is); (case a2 => k_is); (case a3 => k_is); (case a4 => k_is); (case a5 => k_is); (case a6 => k_is); (case a7 => k_is); (case a8 => k_is); (case a9 => k_is); (case a10 => k_is); (case a11 => k_is); (case a12 => k_is); (case a13 => k_is); (case a14 => k_is); (case a15 => k_is); (case a16 => k_is); (case a17 => k_is); (case a18 => k_is); (case a19 => k_is); (case a20 => k_is); (case a => k_is); (case l => k_is)
    obtain ⟨fIR, c, Pt, fdIR, hTab, dIR, gIR⟩ := d_in_row
    obtain ⟨C, T, mkC, kpC, ⟨fI, fdI, mI⟩, ⟨fSU, fdSU, mSU⟩, ⟨fCH, fdCH, mCH⟩, fTB, fdTB, mTB⟩ := d_shed
    obtain ⟨bt, fs, hbt, hbs, hpn⟩ := d_built
    obtain ⟨fW, fdW, dW⟩ := d_is_width
    obtain ⟨fE, fdE, dE⟩ := d_is_each
    obtain ⟨fD, fdD, dD⟩ := d_is_differ
    obtain ⟨fM, fdM, dM⟩ := d_is_mushroom
    obtain ⟨fP, fdP, dP⟩ := d_packed
    obtain ⟨fPI, fdPI, dPI⟩ := d_packed_in
    obtain ⟨fPW, fdPW, dPW⟩ := d_punnet_with
    obtain ⟨f0, fd0, d0⟩ := d_call_begin
    obtain ⟨f1, fd1, d1⟩ := d_call_cap
    obtain ⟨f2, fd2, d2⟩ := d_call_out
    obtain ⟨f3, fd3, d3⟩ := d_call_width
    obtain ⟨f4, fd4, d4⟩ := d_call_each
    obtain ⟨f5, fd5, d5⟩ := d_call_differ
    obtain ⟨f6, fd6, d6⟩ := d_call_back
    obtain ⟨f7, fd7, d7⟩ := d_call_count
    obtain ⟨f8, fd8, d8⟩ := d_call_punnet
    obtain ⟨f9, fd9, d9⟩ := d_call_which
    obtain ⟨f10, fd10, d10⟩ := d_call_left
    obtain ⟨f11, fd11, d11⟩ := d_call_is_one
    obtain ⟨f12, fd12, d12⟩ := d_call_spread
    obtain ⟨f13, fd13, d13⟩ := d_call_if_differ
    obtain ⟨f14, fd14, d14⟩ := d_call_if_each
    obtain ⟨f15, fd15, d15⟩ := d_call_least
    obtain ⟨f16, fd16, d16⟩ := d_call_more
    obtain ⟨f17, fd17, d17⟩ := d_call_best_more
    obtain ⟨f18, fd18, d18⟩ := d_call_needed
    obtain ⟨f19, fd19, d19⟩ := d_call_order
    obtain ⟨f20, fd20, d20⟩ := d_call_state
    obtain ⟨fSo, fdSo, dSo⟩ := d_spread_of
    obtain ⟨fHm, fdHm, dHm⟩ := d_how_many
    obtain ⟨fHw, fdHw, dHw⟩ := d_how_many_with
    obtain ⟨fHo, fdHo, dHo⟩ := d_how_many_without
    obtain ⟨fEn, fdEn, dEn⟩ := d_end_of_call
    obtain ⟨fAn, fdAn, dAn⟩ := d_answer
    obtain ⟨fAs, fdAs, dAs⟩ := d_answers
    have hfa : fa = fAs := by
      have e := hmg.symm.trans dAs.mg_
      cases e
      rfl
    subst hfa
    have T2 : Mush.Txt2 (Mush.Kx KX) mg := ⟨d_one, d_beg, d_nb⟩
    refine ⟨fdAs, c, Pt, hTab, (by first | rfl | kernel_rfl), dAs.bt, fun base kb nb LB => ?_⟩
    have gIR' := gIR PySem.Challenge.rw_mushpunnets_s01_answers.prog w base C T LB
    have gP := Mush.ok_packed (C := C) (kR := 2) dP.fn T gIR' dIR.bd dIR.mg_ dIR.fn.kp dSo
    have gPI := Mush.ok_packed_in (C := C) dPI.fn T gP dP
    have gHm := Mush.ok_how_many (C := C) dHm.fn T gP dP
    have gHw := Mush.ok_with (C := C) dHw.fn T gHm dHm
    have gHo := Mush.ok_without (C := C) dHo.fn T gHm dHm
    have g0 : L2.FnOk PySem.Challenge.rw_mushpunnets_s01_answers.prog w (Mush.Kx KX) mg base L2.CX0 7 f0 fd0 ["shed", "given"] (Mush.spC C ⟨Pt, Mush.inRowPos, Mush.inRowQ⟩ 0) := (Mush.ok_call_begin d0.fn T dE dD mSU.fn mSU.bd mSU.mt).mono (by decide)
    have g1 : L2.FnOk PySem.Challenge.rw_mushpunnets_s01_answers.prog w (Mush.Kx KX) mg base L2.CX0 7 f1 fd1 ["shed", "given"] (Mush.spC C ⟨Pt, Mush.inRowPos, Mush.inRowQ⟩ 1) := (Mush.ok_call_cap d1.fn T dW mCH.fn mCH.bd mCH.mt).mono (by decide)
    have g2 : L2.FnOk PySem.Challenge.rw_mushpunnets_s01_answers.prog w (Mush.Kx KX) mg base L2.CX0 7 f2 fd2 ["shed", "given"] (Mush.spC C ⟨Pt, Mush.inRowPos, Mush.inRowQ⟩ 2) := (Mush.ok_call_out d2.fn T dM mCH.fn mCH.bd mCH.mt).mono (by decide)
    have g3 : L2.FnOk PySem.Challenge.rw_mushpunnets_s01_answers.prog w (Mush.Kx KX) mg base L2.CX0 7 f3 fd3 ["shed", "given"] (Mush.spC C ⟨Pt, Mush.inRowPos, Mush.inRowQ⟩ 3) := (Mush.ok_call_width d3.fn T dM dW mCH.fn mCH.bd mCH.mt).mono (by decide)
    have g4 : L2.FnOk PySem.Challenge.rw_mushpunnets_s01_answers.prog w (Mush.Kx KX) mg base L2.CX0 7 f4 fd4 ["shed", "given"] (Mush.spC C ⟨Pt, Mush.inRowPos, Mush.inRowQ⟩ 4) := (Mush.ok_call_each d4.fn T dE mCH.fn mCH.bd mCH.mt).mono (by decide)
    have g5 : L2.FnOk PySem.Challenge.rw_mushpunnets_s01_answers.prog w (Mush.Kx KX) mg base L2.CX0 7 f5 fd5 ["shed", "given"] (Mush.spC C ⟨Pt, Mush.inRowPos, Mush.inRowQ⟩ 5) := (Mush.ok_call_differ d5.fn T dD mCH.fn mCH.bd mCH.mt).mono (by decide)
    have g6 : L2.FnOk PySem.Challenge.rw_mushpunnets_s01_answers.prog w (Mush.Kx KX) mg base L2.CX0 7 f6 fd6 ["shed", "given"] (Mush.spC C ⟨Pt, Mush.inRowPos, Mush.inRowQ⟩ 6) := (Mush.ok_call_back d6.fn T mTB.fn mTB.bd mTB.mt).mono (by decide)
    have g7 : L2.FnOk PySem.Challenge.rw_mushpunnets_s01_answers.prog w (Mush.Kx KX) mg base L2.CX0 7 f7 fd7 ["shed", "given"] (Mush.spC C ⟨Pt, Mush.inRowPos, Mush.inRowQ⟩ 7) := (Mush.ok_call_count d7.fn T dPI gPI).mono (by decide)
    have g8 : L2.FnOk PySem.Challenge.rw_mushpunnets_s01_answers.prog w (Mush.Kx KX) mg base L2.CX0 7 f8 fd8 ["shed", "given"] (Mush.spC C ⟨Pt, Mush.inRowPos, Mush.inRowQ⟩ 8) := (Mush.ok_call_punnet d8.fn T dPI gPI).mono (by decide)
    have g9 : L2.FnOk PySem.Challenge.rw_mushpunnets_s01_answers.prog w (Mush.Kx KX) mg base L2.CX0 7 f9 fd9 ["shed", "given"] (Mush.spC C ⟨Pt, Mush.inRowPos, Mush.inRowQ⟩ 9) := (Mush.ok_call_which (k := 4) d9.fn T dM dPW dPI gPI).mono (by decide)
    have g10 : L2.FnOk PySem.Challenge.rw_mushpunnets_s01_answers.prog w (Mush.Kx KX) mg base L2.CX0 7 f10 fd10 ["shed", "given"] (Mush.spC C ⟨Pt, Mush.inRowPos, Mush.inRowQ⟩ 10) := (Mush.ok_call_left (k := 4) d10.fn T dPW dPI gPI).mono (by decide)
    have g11 : L2.FnOk PySem.Challenge.rw_mushpunnets_s01_answers.prog w (Mush.Kx KX) mg base L2.CX0 7 f11 fd11 ["shed", "given"] (Mush.spC C ⟨Pt, Mush.inRowPos, Mush.inRowQ⟩ 11) := (Mush.ok_call_is_one d11.fn T dM dSo).mono (by decide)
    have g12 : L2.FnOk PySem.Challenge.rw_mushpunnets_s01_answers.prog w (Mush.Kx KX) mg base L2.CX0 7 f12 fd12 ["shed", "given"] (Mush.spC C ⟨Pt, Mush.inRowPos, Mush.inRowQ⟩ 12) := (Mush.ok_call_spread (k := 4) d12.fn T dSo dPI gPI).mono (by decide)
    have g13 : L2.FnOk PySem.Challenge.rw_mushpunnets_s01_answers.prog w (Mush.Kx KX) mg base L2.CX0 7 f13 fd13 ["shed", "given"] (Mush.spC C ⟨Pt, Mush.inRowPos, Mush.inRowQ⟩ 13) := (Mush.ok_call_if_differ (k := 4) d13.fn T dD dHm gHm).mono (by decide)
    have g14 : L2.FnOk PySem.Challenge.rw_mushpunnets_s01_answers.prog w (Mush.Kx KX) mg base L2.CX0 7 f14 fd14 ["shed", "given"] (Mush.spC C ⟨Pt, Mush.inRowPos, Mush.inRowQ⟩ 14) := (Mush.ok_call_if_each (k := 4) d14.fn T dE dHm gHm).mono (by decide)
    have g15 : L2.FnOk PySem.Challenge.rw_mushpunnets_s01_answers.prog w (Mush.Kx KX) mg base L2.CX0 7 f15 fd15 ["shed", "given"] (Mush.spC C ⟨Pt, Mush.inRowPos, Mush.inRowQ⟩ 15) := (Mush.ok_call_least d15.fn T dHm gHm).mono (by decide)
    have g16 : L2.FnOk PySem.Challenge.rw_mushpunnets_s01_answers.prog w (Mush.Kx KX) mg base L2.CX0 7 f16 fd16 ["shed", "given"] (Mush.spC C ⟨Pt, Mush.inRowPos, Mush.inRowQ⟩ 16) := (Mush.ok_call_more (k := 5) d16.fn T dW dHw gHw).mono (by decide)
    have g17 : L2.FnOk PySem.Challenge.rw_mushpunnets_s01_answers.prog w (Mush.Kx KX) mg base L2.CX0 7 f17 fd17 ["shed", "given"] (Mush.spC C ⟨Pt, Mush.inRowPos, Mush.inRowQ⟩ 17) := (Mush.ok_call_best_more d17.fn T dHw gHw).mono (by decide)
    have g18 : L2.FnOk PySem.Challenge.rw_mushpunnets_s01_answers.prog w (Mush.Kx KX) mg base L2.CX0 7 f18 fd18 ["shed", "given"] (Mush.spC C ⟨Pt, Mush.inRowPos, Mush.inRowQ⟩ 18) := (Mush.ok_call_needed d18.fn T dHo gHo dPI (gPI.mono (by decide))).mono (by decide)
    have g19 : L2.FnOk PySem.Challenge.rw_mushpunnets_s01_answers.prog w (Mush.Kx KX) mg base L2.CX0 7 f19 fd19 ["shed", "given"] (Mush.spC C ⟨Pt, Mush.inRowPos, Mush.inRowQ⟩ 19) := (Mush.ok_call_order d19.fn T dIR gIR').mono (by decide)
    have g20 : L2.FnOk PySem.Challenge.rw_mushpunnets_s01_answers.prog w (Mush.Kx KX) mg base L2.CX0 7 f20 fd20 ["shed", "given"] (Mush.spC C ⟨Pt, Mush.inRowPos, Mush.inRowQ⟩ 20) := (Mush.ok_call_state d20.fn T).mono (by decide)
    have gAn := Mush.ok_answer (C := C) (Tt := ⟨Pt, Mush.inRowPos, Mush.inRowQ⟩) (k := 7) dAn.fn T T2 hbt hbs (fun p gl c hreq => by
      cases hreq with
      | begin_ _ _ => exact ⟨f0, fd0, Mush.table_hit hpn (i := 0) rfl d0.mg_, d0.fn.kp, g0, d0.bd⟩
      | cap _ => exact ⟨f1, fd1, Mush.table_hit hpn (i := 1) rfl d1.mg_, d1.fn.kp, g1, d1.bd⟩
      | out _ => exact ⟨f2, fd2, Mush.table_hit hpn (i := 2) rfl d2.mg_, d2.fn.kp, g2, d2.bd⟩
      | width _ _ => exact ⟨f3, fd3, Mush.table_hit hpn (i := 3) rfl d3.mg_, d3.fn.kp, g3, d3.bd⟩
      | each _ => exact ⟨f4, fd4, Mush.table_hit hpn (i := 4) rfl d4.mg_, d4.fn.kp, g4, d4.bd⟩
      | differ _ => exact ⟨f5, fd5, Mush.table_hit hpn (i := 5) rfl d5.mg_, d5.fn.kp, g5, d5.bd⟩
      | back => exact ⟨f6, fd6, Mush.table_hit hpn (i := 6) rfl d6.mg_, d6.fn.kp, g6, d6.bd⟩
      | count => exact ⟨f7, fd7, Mush.table_hit hpn (i := 7) rfl d7.mg_, d7.fn.kp, g7, d7.bd⟩
      | punnet _ => exact ⟨f8, fd8, Mush.table_hit hpn (i := 8) rfl d8.mg_, d8.fn.kp, g8, d8.bd⟩
      | which _ => exact ⟨f9, fd9, Mush.table_hit hpn (i := 9) rfl d9.mg_, d9.fn.kp, g9, d9.bd⟩
      | left => exact ⟨f10, fd10, Mush.table_hit hpn (i := 10) rfl d10.mg_, d10.fn.kp, g10, d10.bd⟩
      | isOne _ _ => exact ⟨f11, fd11, Mush.table_hit hpn (i := 11) rfl d11.mg_, d11.fn.kp, g11, d11.bd⟩
      | spread _ => exact ⟨f12, fd12, Mush.table_hit hpn (i := 12) rfl d12.mg_, d12.fn.kp, g12, d12.bd⟩
      | ifDiffer _ => exact ⟨f13, fd13, Mush.table_hit hpn (i := 13) rfl d13.mg_, d13.fn.kp, g13, d13.bd⟩
      | ifEach _ => exact ⟨f14, fd14, Mush.table_hit hpn (i := 14) rfl d14.mg_, d14.fn.kp, g14, d14.bd⟩
      | least _ => exact ⟨f15, fd15, Mush.table_hit hpn (i := 15) rfl d15.mg_, d15.fn.kp, g15, d15.bd⟩
      | more _ => exact ⟨f16, fd16, Mush.table_hit hpn (i := 16) rfl d16.mg_, d16.fn.kp, g16, d16.bd⟩
      | bestMore => exact ⟨f17, fd17, Mush.table_hit hpn (i := 17) rfl d17.mg_, d17.fn.kp, g17, d17.bd⟩
      | needed => exact ⟨f18, fd18, Mush.table_hit hpn (i := 18) rfl d18.mg_, d18.fn.kp, g18, d18.bd⟩
      | order => exact ⟨f19, fd19, Mush.table_hit hpn (i := 19) rfl d19.mg_, d19.fn.kp, g19, d19.bd⟩
      | state => exact ⟨f20, fd20, Mush.table_hit hpn (i := 20) rfl d20.mg_, d20.fn.kp, g20, d20.bd⟩)
    exact Mush.ok_answers (k := 6) dAs.fn T T2 ⟨mkC, mI.mt.at_, mI.mt.fn, kpC⟩ mI.fn mI.bd dEn dAn gAn
  case S =>
    intro K Pt H xs a hO hwi hask hx
    cases hx with
    | cons h1 h2 =>
      cases h2
      cases h1 with
      | lst hs ha =>
        have e := L2.ints_dw a.1 _ ha
        subst e
        obtain ⟨cs, f1, f2, f3⟩ := Mush.asked_flat (l := a.1) hask
        refine ⟨_, a.1, cs, rfl, hs, f1, f2, .inl hO.1, fun H' p hp => ?_⟩
        rw [← f3] at hp
        exact .lst (L2.SqL.of hp) (L2.dw_ints _)

