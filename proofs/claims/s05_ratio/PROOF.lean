import PyProof.Rows.All
import Wide.All
import OpenK.AllK
import Wide.FinOn
import PyProof.EqAt
import PyProof.EqKinds
import PyProof.TupleCall
import KE.BitLaws
import Open.SpecLaws
import KE.OsHead
import KE.OsGo
import PyProof.ExcInit
import PyProof.InstStoreFacts
import PyProof.ExcBaseAll.Exception
import PyProof.ExcArgsOwn
import PyProof.RulesAs
import PyProof.StationsW
import PyProof.ExcAttrAll.Exception
import KE.KLam
import PySem.Challenge.RW_wholeamounts_s05_ratio
section
set_option Elab.async false
set_option linter.all false
set_option maxRecDepth 100000
/-! THE HAND LAYER, for ints, bools, texts, own classes, lists, tuples, dicts, comprehensions, walks over dicts, enumerate, zip, reversed, texts, calls, loops. Paste it whole ahead of your own text; what your proof does not reach may be deleted. -/
namespace L2
open PySem PySem.Spec PyProof.Rows

/-- a key: an int or a str -/
abbrev Key := Sum Int Str
def keyIs : Key → Value → Bool
  | .inl k, v => Value.isInt k v
  | .inr x, v => Value.isStrOf x v
def keyH (w : World) : Key → Int
  | .inl k => hashInt k
  | .inr x => hashStr w x
theorem keyIs_shape : ∀ {k : Key} {v : Value}, keyIs k v = true → (∃ i t, k = Sum.inl i ∧ v = Value.int i t) ∨ (∃ x t, k = Sum.inr x ∧ v = Value.str x t)
  | .inl i, v, h => by
    obtain ⟨t, e⟩ := Value.isInt_shape (k := i) (v := v) h
    exact .inl ⟨i, t, rfl, e⟩
  | .inr x, v, h => by
    obtain ⟨t, e⟩ := Value.isStrOf_shape (x := x) (v := v) h
    exact .inr ⟨x, t, rfl, e⟩
theorem key_ll (a b : Int) : decide ((Sum.inl a : Key) = Sum.inl b) = (a == b) := by
  by_cases e : a = b
  · subst e; simp
  · have h : ¬ (Sum.inl a : Key) = Sum.inl b := fun q => e (Sum.inl.inj q)
    rw [decide_eq_false h]
    exact (beq_eq_false_iff_ne.mpr e).symm
theorem key_rr (a b : Str) : decide ((Sum.inr a : Key) = Sum.inr b) = decide (a = b) := by
  by_cases e : a = b
  · subst e; simp
  · have h : ¬ (Sum.inr a : Key) = Sum.inr b := fun q => e (Sum.inr.inj q)
    rw [decide_eq_false h, decide_eq_false e]
theorem key_lr (a : Int) (b : Str) : decide ((Sum.inl a : Key) = Sum.inr b) = false := decide_eq_false (fun q => nomatch q)
theorem key_rl (a : Str) (b : Int) : decide ((Sum.inr a : Key) = Sum.inl b) = false := decide_eq_false (fun q => nomatch q)

def mixKind (prog : Program) (w : World) : PySem.KeyKind prog w Key where
  is := keyIs
  hash := keyH w
  inj := fun v a b ha hb => by
    rcases keyIs_shape ha with ⟨i, t, rfl, rfl⟩ | ⟨x, t, rfl, rfl⟩
    · rcases keyIs_shape hb with ⟨j, u, rfl, e⟩ | ⟨y, u, rfl, e⟩
      · injection e with e1 _; rw [e1]
      · exact nomatch e
    · rcases keyIs_shape hb with ⟨j, u, rfl, e⟩ | ⟨y, u, rfl, e⟩
      · exact nomatch e
      · injection e with e1 _; rw [e1]
  byValue := fun k v h => by
    rcases keyIs_shape h with ⟨i, t, rfl, rfl⟩ | ⟨x, t, rfl, rfl⟩ <;> rfl
  pyHash := fun hv h => by
    rcases keyIs_shape hv with ⟨i, t, rfl, rfl⟩ | ⟨x, t, rfl, rfl⟩
    · exact wpAny_pyHash_int h
    · exact wpAny_pyHash_str h
  eqBool := fun hu hv h => by
    rcases keyIs_shape hu with ⟨i, t, rfl, rfl⟩ | ⟨x, t, rfl, rfl⟩
    · rcases keyIs_shape hv with ⟨j, u, rfl, rfl⟩ | ⟨y, u, rfl, rfl⟩
      · rw [key_ll] at h; exact wpAny_eqBool_int h
      · rw [key_lr] at h; exact SeqAt.EqAt.int_str i t y u _ _ _ _ h
    · rcases keyIs_shape hv with ⟨j, u, rfl, rfl⟩ | ⟨y, u, rfl, rfl⟩
      · rw [key_rl] at h; exact SeqAt.EqAt.str_int x t j u _ _ _ _ h
      · rw [key_rr] at h; exact wpAny_eqBool_str h
  «strs» := fun k x t v h => by
    rcases keyIs_shape h with ⟨i, u, rfl, e⟩ | ⟨y, u, rfl, e⟩
    · exact nomatch e
    · injection e with e1 _
      subst e1
      cases v <;> rfl

end L2

namespace L2
open PySem PySem.Spec PyProof.Rows

/-- a value, without the heap -/
inductive V where
  | non | bl (b : Bool) | int (i : Int) | str (x : Str) | byt (b : Array UInt8) | flt (b : UInt64) | ref (a : Addr) | ty (n : String)
  deriving DecidableEq

def RelV : V → Value → Prop
  | .non, u => u = Value.none
  | .bl b, u => u = Value.bool b
  | .int i, u => ∃ t, u = Value.int i t
  | .str x, u => ∃ t, u = Value.str x t
  | .byt b, u => ∃ t, u = Value.bytes b t
  | .flt b, u => ∃ t, u = Value.float b t
  | .ref a, u => u = Value.ref a
  | .ty n, u => u = Value.type n

abbrev Vals : List V → List Value → Prop := Paired RelV
theorem Vals.length {xs : List V} {us : List Value} (r : Vals xs us) : xs.length = us.length := Paired.length r
theorem Vals.get : ∀ {xs : List V} {us : List Value} {i : Nat} {x : V}, Vals xs us → xs[i]? = some x → ∃ u, us[i]? = some u ∧ RelV x u
  | _, _, _, _, .nil, e => by simp at e
  | _, _, 0, _, .cons r _, e => by simp at e; subst e; exact ⟨_, rfl, r⟩
  | _, _, i + 1, x, .cons _ t, e => by
    obtain ⟨u, h1, h2⟩ := Vals.get (i := i) (x := x) t (by simpa using e)
    exact ⟨u, by simpa using h1, h2⟩
theorem Vals.append : ∀ {xs ys : List V} {us ws : List Value}, Vals xs us → Vals ys ws → Vals (xs ++ ys) (us ++ ws)
  | _, _, _, _, .nil, s => s
  | _, _, _, _, .cons r t, s => .cons r (Vals.append t s)
def RelO : Option V → Option Value → Prop
  | some v, some u => RelV v u
  | none, none => True
  | _, _ => False
def KV {κ : Type} : List (κ × V) → List (κ × Value) → Prop := Paired fun (p : κ × V) (q : κ × Value) => p.1 = q.1 ∧ RelV p.2 q.2

/-- a key of a dict (00_mix): an int or a text -/
def kV : Key → V
  | .inl i => .int i
  | .inr x => .str x

/-- what stands at a tracked address -/
inductive HO where
  /-- a list -/
  | lst (xs : List V)
  /-- a tuple (never changes) -/
  | tup (xs : List V)
  /-- a dict whose keys are ints and texts; one whose keys are tuples of ints and texts (the empty one is both) -/
  | dK (kvs : List (Key × V)) | dT (kvs : List (List Key × V))
  /-- a set of ints: its members, its size -/
  | set (S : Int → Bool) (n : Nat)
  /-- an instance of the class at C, its dict at dx, its attributes -/
  | ins (C dx : Addr) (fs : List (Str × V))
  /-- the dict of the instance at x -/
  | own (x : Addr)
  /-- the dict of an exception -/
  | xd (fs : List (Str × V))
  /-- a bound method, f of x -/
  | met (f x : Addr)
  /-- a range object lo, lo + 1, .. below hi -/
  | rng (lo hi : Int)
  /-- a thing that is known to the object (the script; a dict while a loop walks it): read, never written while it is so -/
  | frz (o : Obj) (u : HO)
  /-- a code object's table -/
  | tbl (ps : Array Value)
  /-- any other thing, by what is true of its one object (a def of one's own: SetO a S n := HO.ext fun h => ..) -/
  | ext (φ : Heap → Prop)

abbrev Hp := Addr → Option HO
def upd (H : Hp) (a : Addr) (o : HO) : Hp := fun b => if b = a then some o else H b
theorem upd_same {H : Hp} {a : Addr} {o : HO} : upd H a o a = some o := by unfold upd; rw [if_pos rfl]
theorem upd_ne {H : Hp} {a b : Addr} {o : HO} (h : b ≠ a) : upd H a o b = H b := by unfold upd; rw [if_neg h]
/-- two objects of different content stand apart -/
theorem ne_of {H : Hp} {a b : Addr} {o u : HO} (h : H a = some o) (h' : H b = some u) (d : o ≠ u) : a ≠ b := by
  intro e; subst e; rw [h] at h'; exact d (Option.some.inj h')
theorem ne_of_none {H : Hp} {a b : Addr} {o : HO} (h : H a = some o) (h' : H b = none) : a ≠ b := by
  intro e; subst e; rw [h] at h'; cases h'

section
variable (P : Program) (w : World)
def ObjOk (H : Hp) (h : Heap) (a : Addr) : HO → Prop
  | .lst xs => xs.length ≤ sizeLine ∧ ∃ (its : List Value) (n : Nat), Vals xs its ∧ h.get? a = some { cls := .type "list", data := .seq its.toArray n }
  | .tup xs => xs.length ≤ sizeLine ∧ ∃ its : List Value, Vals xs its ∧ IsTup h a its.toArray
  | .dK kvs => kvs.length ≤ sizeLine ∧ (a == sysModules) = false ∧ ∃ vs, KV kvs vs ∧ h.DictOf (mixKind P w) a vs
  | .dT kvs => kvs.length ≤ sizeLine ∧ (a == sysModules) = false ∧ ∃ xs : List (List Key × Addr × Value),
      Paired (fun (p : List Key × V) (q : List Key × Addr × Value) => p.1 = q.1 ∧ H q.2.1 = some (.tup (p.1.map kV)) ∧ RelV p.2 q.2.2) kvs xs ∧
      ∃ o es ep, h.get? a = some o ∧ o.ExactDict ∧ o.data = .dict es ep ∧ es.toList = xs.map (entryOfKey (tupleKind (mixKind P w))) ∧ (xs.map (·.1)).Nodup
  | .set S n => h.SetOf (intKind P w) a S n
  | .ins C dx fs => H dx = some (.own a) ∧ fs.length ≤ 1000 ∧ dx ≠ a ∧ h.get? a = some (PySem.W.instObj C dx) ∧
      ∃ mA, h.Ns1 dx mA ∧ (∀ f, RelO (fs.lookup f) (mA f)) ∧ PySem.Within mA (fs.map (·.1))
  | .own _ => ∃ o, h.get? a = some o
  | .xd fs => ∃ mA, h.Ns1 a mA ∧ ∀ f, RelO (fs.lookup f) (mA f)
  | .rng lo hi => ∃ t u v, h.get? a = some { cls := .type "range", data := .fields #[.int lo t, .int hi u, .int 1 v] }
  | .frz o u => h.get? a = some o ∧ ObjOk H h a u
  | .tbl ps => h.get? a = some { cls := .none, data := .fields ps }
  | .met f x => h.get? a = some (PySem.W.methodObj (.ref f) (.ref x))
  | .ext φ => φ h ∧ (∃ o, h.get? a = some o) ∧ ∀ h1 h2 : Heap, φ h1 → (∀ o, h1.get? a = some o → h2.get? a = some o) → φ h2
/-- the abstract heap is held -/
def HOk (H : Hp) (h : Heap) : Prop := ∀ a o, H a = some o → ObjOk P w H h a o
end

section
variable {P : Program} {w : World} {H H' : Hp} {h h' : Heap} {a : Addr} {o : HO}
theorem ObjOk.lt (x : ObjOk P w H h a o) : a < h.objs.size := by
  cases o with
  | lst xs => obtain ⟨_, _, _, _, e⟩ := x; exact Heap.lt_size e
  | tup xs => obtain ⟨_, _, _, p⟩ := x; exact p.lt
  | dK kvs => obtain ⟨_, _, _, _, o, _, _, e, _⟩ := x; exact Heap.lt_size e
  | dT kvs => obtain ⟨_, _, _, _, o, _, _, e, _⟩ := x; exact Heap.lt_size e
  | set S n => obtain ⟨o, _, _, _, e, _⟩ := x; exact Heap.lt_size e
  | ins C dx fs => obtain ⟨_, _, _, e, _⟩ := x; exact Heap.lt_size e
  | own y => obtain ⟨_, e⟩ := x; exact Heap.lt_size e
  | xd fs => obtain ⟨_, ⟨_, _, _, e, _⟩, _⟩ := x; exact Heap.lt_size e
  | rng lo hi => obtain ⟨_, _, _, e⟩ := x; exact Heap.lt_size e
  | frz ob u => obtain ⟨e, _⟩ := x; exact Heap.lt_size e
  | tbl ps => exact Heap.lt_size (show h.get? a = some _ from x)
  | met f y => exact Heap.lt_size (show h.get? a = some _ from x)
  | ext φ => obtain ⟨_, ⟨_, e⟩, _⟩ := x; exact Heap.lt_size e
theorem Paired.mapP {α β : Type} {F G : α → β → Prop} : ∀ {l₁ : List α} {l₂ : List β}, Paired F l₁ l₂ → (∀ a b, F a b → G a b) → Paired G l₁ l₂
  | _, _, .nil, _ => .nil
  | _, _, .cons r t, f => .cons (f _ _ r) (Paired.mapP t f)
/-- what an object's description leans on: its own object, its own dict, the tuples -/
theorem ObjOk.stay (x : ObjOk P w H h a o) (k : ∀ b u, (b = a ∨ H b = some (.own a)) → h.get? b = some u → h'.get? b = some u)
    (ho : ∀ b, H b = some (.own a) → H' b = some (.own a)) (ht : ∀ b xs, H b = some (.tup xs) → H' b = some (.tup xs)) : ObjOk P w H' h' a o := by
  induction o with
  | lst xs => obtain ⟨z, its, n, r, e⟩ := x; exact ⟨z, its, n, r, k _ _ (.inl rfl) e⟩
  | tup xs => obtain ⟨z, its, r, ob, e, c⟩ := x; exact ⟨z, its, r, ob, k _ _ (.inl rfl) e, c⟩
  | dK kvs => obtain ⟨z, y, vs, r, ob, es, ep, e, c⟩ := x; exact ⟨z, y, vs, r, ob, es, ep, k _ _ (.inl rfl) e, c⟩
  | dT kvs =>
    obtain ⟨z, y, xs, r, ob, es, ep, e, c⟩ := x
    exact ⟨z, y, xs, Paired.mapP r fun p q z => ⟨z.1, ht _ _ z.2.1, z.2.2⟩, ob, es, ep, k _ _ (.inl rfl) e, c⟩
  | set S n => obtain ⟨ob, es, ep, t, e, c⟩ := x; exact ⟨ob, es, ep, t, k _ _ (.inl rfl) e, c⟩
  | ins C dx fs =>
    obtain ⟨d, z, ne, e, mA, ⟨od, es, ep, e2, c⟩, r⟩ := x
    exact ⟨ho _ d, z, ne, k _ _ (.inl rfl) e, mA, ⟨od, es, ep, k _ _ (.inr d) e2, c⟩, r⟩
  | own y => obtain ⟨ob, e⟩ := x; exact ⟨ob, k _ _ (.inl rfl) e⟩
  | xd fs => obtain ⟨mA, ⟨od, es, ep, e, c⟩, r⟩ := x; exact ⟨mA, ⟨od, es, ep, k _ _ (.inl rfl) e, c⟩, r⟩
  | rng lo hi => obtain ⟨t, u, v, e⟩ := x; exact ⟨t, u, v, k _ _ (.inl rfl) e⟩
  | frz ob u ih => obtain ⟨e, q⟩ := x; exact ⟨k _ _ (.inl rfl) e, ih q⟩
  | tbl ps =>
    have e : h.get? a = some { cls := .none, data := .fields ps } := x
    show h'.get? a = some { cls := .none, data := .fields ps }
    exact k a _ (.inl rfl) e
  | met f y =>
    have e : h.get? a = some (PySem.W.methodObj (.ref f) (.ref y)) := x
    show h'.get? a = some (PySem.W.methodObj (.ref f) (.ref y))
    exact k a _ (.inl rfl) e
  | ext φ => obtain ⟨p, ⟨o, e⟩, st⟩ := x; exact ⟨st _ _ p fun o q => k _ _ (.inl rfl) q, ⟨o, k _ _ (.inl rfl) e⟩, st⟩
theorem HOk.lt (x : HOk P w H h) (e : H a = some o) : a < h.objs.size := (x a o e).lt
theorem HOk.fresh (x : HOk P w H h) (e : h.objs.size ≤ a) : H a = none := by
  cases q : H a with
  | none => rfl
  | some u => exact absurd (Nat.lt_of_lt_of_le (x.lt q) e) (Nat.lt_irrefl _)
/-- every object of the heap is kept -/
theorem HOk.kept (x : HOk P w H h) (k : ∀ b u, h.get? b = some u → h'.get? b = some u) : HOk P w H h' := fun a o e =>
  (x a o e).stay (fun b u _ q => k b u q) (fun _ q => q) fun _ _ q => q
/-- a new object is laid and tracked -/
theorem HOk.laid (x : HOk P w H h) (k : ∀ b u, h.get? b = some u → h'.get? b = some u) (hp : h.objs.size ≤ a) (new : ObjOk P w (upd H a o) h' a o) : HOk P w (upd H a o) h' := fun b u e => by
  have hn := x.fresh hp
  by_cases hb : b = a
  · subst hb; rw [upd_same] at e; cases e; exact new
  · rw [upd_ne hb] at e
    exact (x b u e).stay (fun c v _ q => k c v q) (fun c q => by rw [upd_ne (ne_of_none q hn)]; exact q) fun c xs q => by rw [upd_ne (ne_of_none q hn)]; exact q
end

/-- what may be read as u: it is u, or a known u -/
def Rd (H : Hp) (a : Addr) (u : HO) : Prop := H a = some u ∨ ∃ o, H a = some (.frz o u)
theorem Rd.ok {P : Program} {w : World} {H : Hp} {h : Heap} {a : Addr} {u : HO} (r : Rd H a u) (x : HOk P w H h) : ObjOk P w H h a u := by
  rcases r with r | ⟨o, r⟩
  · exact x a u r
  · obtain ⟨_, q⟩ := x a _ r
    exact q
/-- what may be written -/
def Mut : Option HO → Prop
  | some (.lst _) => True
  | some (.dK _) => True
  | some (.dT _) => True
  | some (.set _ _) => True
  | some (.ins _ _ _) => True
  | some (.ext _) => True
  | _ => False
section
variable {P : Program} {w : World} {H : Hp} {h h' : Heap} {x e : Addr} {o' : HO}
/-- the object at e is changed: x itself, or the dict of the instance x -/
theorem HOk.write (ok : HOk P w H h) (mu : Mut (H x)) (he : e = x ∨ H e = some (.own x)) (k : ∀ b u, b ≠ e → h.get? b = some u → h'.get? b = some u) (heo : ∃ u, h'.get? e = some u)
    (new : ObjOk P w (upd H x o') h' x o') : HOk P w (upd H x o') h' := fun b u q => by
  have nown : ∀ c y, H c = some (.own y) → c ≠ x := fun c y r z => by subst z; rw [r] at mu; exact mu
  have ntup : ∀ c xs, H c = some (.tup xs) → c ≠ x := fun c xs r z => by subst z; rw [r] at mu; exact mu
  by_cases hb : b = x
  · subst hb; rw [upd_same] at q; cases q; exact new
  · rw [upd_ne hb] at q
    by_cases hbe : b = e
    · have q' : H b = some (.own x) := by
        rcases he with z | z
        · exact absurd (hbe.trans z) hb
        · rw [hbe]; exact z
      rw [q] at q'; cases q'
      obtain ⟨v, hv⟩ := heo
      exact ⟨v, by rw [hbe]; exact hv⟩
    · refine (ok b u q).stay (fun c v hc r => k c v ?_ r) (fun c r => by rw [upd_ne (nown c b r)]; exact r) fun c xs r => by rw [upd_ne (ntup c xs r)]; exact r
      rcases hc with rfl | hc
      · exact hbe
      · rintro rfl
        rcases he with z | z
        · exact nown c b hc z
        · rw [hc] at z; cases z; exact hb rfl
end

/-! ### kept unless tracked; of the frames at fs (the callers') the slots may change (an exception that passes writes there); of the records at ex (iterators) nothing is said -/
structure Un (fs ex : List Addr) (H H' : Hp) (h h' : Heap) : Prop where
  keep : ∀ b o, h.get? b = some o → H b = none → b ∉ fs → b ∉ ex → h'.get? b = some o
  slot : ∀ b o, h.get? b = some o → H b = none → b ∈ fs → b ∉ ex → ∃ sl, h'.get? b = some { o with slots := sl }
  free : ∀ b o, h.get? b = some o → H b = none → b ∉ ex → H' b = none
  there : ∀ b o, h.get? b = some o → b ∉ ex → ∃ o', h'.get? b = some o'
  tups : ∀ b xs, H b = some (.tup xs) → H' b = some (.tup xs)
  frzs : ∀ b o u, H b = some (.frz o u) → H' b = some (.frz o u)
  tbls : ∀ b ps, H b = some (.tbl ps) → ∃ more, H' b = some (.tbl (ps ++ more))
section
variable {fs fs' ex ex' : List Addr} {H H1 H2 : Hp} {h h1 h2 h' : Heap} {a x e : Addr} {o : HO}
theorem Un.any (u : Un fs ex H H1 h h1) {b : Addr} {ob : Obj} (q : h.get? b = some ob) (n : H b = none) (hx : b ∉ ex) : ∃ sl, h1.get? b = some { ob with slots := sl } := by
  by_cases hb : b ∈ fs
  · exact u.slot b ob q n hb hx
  · exact ⟨ob.slots, u.keep b ob q n hb hx⟩
theorem Un.kept (k : ∀ b u, h.get? b = some u → h'.get? b = some u) : Un fs ex H H h h' :=
  ⟨fun b ob q _ _ _ => k b ob q, fun b ob q _ _ _ => ⟨ob.slots, k b ob q⟩, fun _ _ _ n _ => n, fun b ob q _ => ⟨ob, k b ob q⟩, fun _ _ q => q, fun _ _ _ q => q, fun _ ps q => ⟨#[], by rw [q]; simp⟩⟩
theorem Un.refl : Un fs ex H H h h := Un.kept fun _ _ q => q
theorem Un.laid (k : ∀ b u, h.get? b = some u → h'.get? b = some u) (hp : h.objs.size ≤ a) (hn : H a = none) : Un fs ex H (upd H a o) h h' where
  keep := fun b u q _ _ _ => k b u q
  slot := fun b u q _ _ _ => ⟨u.slots, k b u q⟩
  free := fun b u q n _ => by rw [upd_ne (Nat.ne_of_lt (Nat.lt_of_lt_of_le (Heap.lt_size q) hp))]; exact n
  there := fun b u q _ => ⟨u, k b u q⟩
  tups := fun b xs q => by rw [upd_ne (ne_of_none q hn)]; exact q
  frzs := fun b u xs q => by rw [upd_ne (ne_of_none q hn)]; exact q
  tbls := fun b ps q => ⟨#[], by rw [upd_ne (ne_of_none q hn), q]; simp⟩
theorem Un.write (mu : Mut (H x)) (he : e = x ∨ H e = some (.own x)) (k : ∀ b u, b ≠ e → h.get? b = some u → h'.get? b = some u) (heo : ∃ u, h'.get? e = some u) : Un fs ex H (upd H x o) h h' := by
  have hx : ∀ b, H b = none → b ≠ x := fun b n z => by subst z; rw [n] at mu; exact mu
  have hb : ∀ b, H b = none → b ≠ e := fun b n z => by
    subst z
    rcases he with r | r
    · exact hx b n r
    · rw [n] at r; cases r
  have hm : ∀ b u, H b = some u → ¬ Mut (some u) → b ≠ x := fun b u q nm z => by subst z; rw [q] at mu; exact nm mu
  refine ⟨fun b u q n _ _ => k b u (hb b n) q, fun b u q n _ _ => ⟨u.slots, k b u (hb b n) q⟩, fun b u q n _ => by rw [upd_ne (hx b n)]; exact n, fun b u q _ => ?_,
    fun b xs q => by rw [upd_ne (hm b _ q fun z => z)]; exact q, fun b u xs q => by rw [upd_ne (hm b _ q fun z => z)]; exact q, fun b ps q => ⟨#[], by rw [upd_ne (hm b _ q fun z => z), q]; simp⟩⟩
  by_cases hbe : b = e
  · subst hbe; exact heo
  · exact ⟨u, k b u hbe q⟩
end

/-! ### the heap without what is tracked -/
def trk (h : Heap) (H : Hp) : List Addr := (List.range h.objs.size).filter fun a => (H a).isSome
def hidT (h : Heap) (H : Hp) : Heap := PySem.W.hideAll h (trk h H)
theorem hidT_size (h : Heap) (H : Hp) : (hidT h H).objs.size = h.objs.size := PySem.W.hideAll_size _ _
theorem hidT_get {h : Heap} {H : Hp} {b : Addr} {o : Obj} (e : h.get? b = some o) (n : H b = none) : (hidT h H).get? b = some o :=
  PySem.W.hideAll_get _ e fun hm => by
    have q : (H b).isSome = true := (List.mem_filter.mp hm).2
    rw [n] at q; simp at q
theorem of_hidT {h : Heap} {H : Hp} {b : Addr} {o : Obj} (e : (hidT h H).get? b = some o) : h.get? b = some o ∧ H b = none := by
  have e' : h.get? b = some o := PySem.W.of_hideAll (trk h H) e
  refine ⟨e', ?_⟩
  cases q : H b with
  | none => rfl
  | some x =>
    have hm : b ∈ trk h H := List.mem_filter.mpr ⟨List.mem_range.mpr (Heap.lt_size e'), by simp [q]⟩
    have z : (hidT h H).get? b = none := PySem.W.hideAll_none (trk h H) hm
    rw [z] at e; cases e

/-! ### OpenK's ledger, filled with every new object but one -/
end L2

namespace L2
open PySem PySem.Spec PyProof.Rows

/-- the module's facts, over the base: the heap at the law's entry without what is tracked there -/
structure Mod (K : PySem.W.Frag) (mg : Str → Option Value) (base : Heap) : Prop where
  kin : K.In base
  glob : base.Ns mainGlobals mg
  blt : ∃ mb, base.Ns builtinsNs mb ∧ ∀ x : Str, x ≠ "__name__" → mb x = bootBuiltins x
  nolimit : base.NoLimit

/-- the context: a def's body (or a comprehension's block) running. base: fixed through the whole law; s₀, H₀: the entry; outer: the frames whose slots others may change (a def's callers); stack: all frames that run;
   ex: iterators that were made ahead of the entry and are walked here (a comprehension's); fn: the names whose cells were made at the entry (a def: all; a comprehension's block: its own); calm: not within an except suite; pn: pins that every state bears; xe: what is wanted of an exception that leaves the code -/
structure Cx where
  prog : Program
  w : World
  K : PySem.W.Frag
  mg : Str → Option Value
  base : Heap
  A : Around
  N : List Str
  s_0 : Shared
  H_0 : Hp
  env : Env
  outer : List Env
  stack : List Env
  ex : List Addr
  fn : Str → Bool
  calm : Bool
  pn : List (Addr × Obj)
  xe : Value → Shared → Prop
/-- the callers' frames -/
def frs (l : List Env) : List Addr := l.filterMap (·.frame)
abbrev Cx.fs (X : Cx) : List Addr := frs X.outer

def Vis (sc : Scope) (x : Str) : Prop := sc.names.lookup x = some .local ∨ sc.names.lookup x = some .cell ∨ sc.names.lookup x = some .free
def Loc (sc : Scope) (x : Str) : Prop := sc.names.lookup x = some .local ∨ sc.names.lookup x = some .cell
def Look (env : Env) (h : Heap) (m : Str → Option Value) (x : Str) (u : Value) : Prop :=
  (env.kindOf x = some .local ∧ m x = some u) ∨ ((env.kindOf x = some .cell ∨ env.kindOf x = some .free) ∧ ∃ c, env.cells.lookup x = some c ∧ h.IsCell c (some u))

structure Cx.Ok (X : Cx) : Prop where
  mod : Mod X.K X.mg X.base
  kind : X.env.scope.kind = .function
  glob : X.env.globals = mainGlobals
  blt : X.env.builtins = builtinsNs
  above : X.s_0.heap.objs.size ≤ X.env.locals
  inj : ∀ x y c, X.env.cells.lookup x = some c → X.env.cells.lookup y = some c → x = y
  has : ∀ x, (X.env.kindOf x = some .cell ∨ X.env.kindOf x = some .free) → ∃ c, X.env.cells.lookup x = some c
  cab : ∀ x c, X.fn x = true → X.env.cells.lookup x = some c → X.s_0.heap.objs.size ≤ c
  hd : X.calm = true → X.A.handled = none
  frames : X.A.frames = some X.stack
  stk : X.stack = X.outer ∨ (X.stack = X.env :: X.outer ∧ X.env.frame = some X.env.locals)
  exf : ∀ b ∈ X.ex, b ≠ X.env.locals ∧ ∀ x c, X.env.cells.lookup x = some c → c ≠ b
  bs : ∀ b o, X.base.get? b = some o → X.s_0.heap.get? b = some o ∧ X.H_0 b = none
  bsz : X.base.objs.size ≤ X.s_0.heap.objs.size
  noex : ∀ b o, X.base.get? b = some o → b ∉ X.ex
  exfs : ∀ b ∈ X.ex, b ∉ X.fs
  funs : X.s_0.heap.FunFrames X.base X.outer
  frf : ∀ b ∈ X.fs, X.H_0 b = none

structure Inv (X : Cx) (pins : List (Addr × Obj)) (σ : List (Option V)) (H : Hp) (s : Shared) : Prop where
  ok : X.Ok
  os : s.os = X.s_0.os
  bare : AllBare s.gens
  base : Un X.fs X.ex X.H_0 H X.s_0.heap s.heap
  loc : ∃ m, s.heap.Ns X.env.locals m ∧ ∀ (i : Nat) (x : Str) (v : V), X.N[i]? = some x → σ[i]? = some (some v) → Vis X.env.scope x → ∃ u, RelV v u ∧ Look X.env s.heap m x u
  cell : ∀ x c, X.env.cells.lookup x = some c → ∃ v, s.heap.IsCell c v
  free : H X.env.locals = none
  freeC : ∀ x c, X.env.cells.lookup x = some c → H c = none
  pin : ∀ p ∈ X.pn ++ pins, s.heap.get? p.1 = some p.2 ∧ H p.1 = none ∧ p.1 ≠ X.env.locals ∧ p.1 ∉ X.fs ∧ ∀ v, p.2.data ≠ .cell v
  hok : HOk X.prog X.w H s.heap
  len : σ.length = X.N.length

section
variable {X : Cx} {pins : List (Addr × Obj)} {σ : List (Option V)} {H H' : Hp} {s : Shared} {h' : Heap}

theorem Cx.Ok.nofr (ok : X.Ok) {b : Addr} {o : Obj} (e : X.base.get? b = some o) : b ∉ X.fs := fun hb => by
  have := (ok.funs.mem hb).1
  rw [e] at this; cases this
theorem Inv.bs (I : Inv X pins σ H s) : ∀ b o, X.base.get? b = some o → s.heap.get? b = some o ∧ H b = none := fun b o e =>
  ⟨I.base.keep b o (I.ok.bs b o e).1 (I.ok.bs b o e).2 (I.ok.nofr e) (I.ok.noex b o e), I.base.free b o (I.ok.bs b o e).1 (I.ok.bs b o e).2 (I.ok.noex b o e)⟩
theorem Inv.bk (I : Inv X pins σ H s) : ∀ b o, X.base.get? b = some o → s.heap.get? b = some o := fun b o e => (I.bs b o e).1
theorem Inv.mod (I : Inv X pins σ H s) : Mod X.K X.mg X.base := I.ok.mod
theorem Inv.kIn (I : Inv X pins σ H s) : X.K.In s.heap := I.ok.mod.kin.keeps I.bk
/-- the frame over the base: for OpenK's rules (K.In X.base is I.mod.kin) -/
theorem Inv.fr (I : Inv X pins σ H s) : ∃ m, Fr X.base X.env.locals s.heap m :=
  let ⟨m, hn, _⟩ := I.loc
  ⟨m, hn, I.bk, Nat.le_trans I.ok.bsz I.ok.above⟩
theorem Inv.lt (I : Inv X pins σ H s) : X.env.locals < s.heap.objs.size := let ⟨_, hn, _⟩ := I.loc; hn.lt
theorem Inv.sz (I : Inv X pins σ H s) : X.s_0.heap.objs.size ≤ s.heap.objs.size := Nat.le_trans I.ok.above (Nat.le_of_lt I.lt)
theorem Inv.nofs (I : Inv X pins σ H s) {a : Addr} (h : s.heap.objs.size ≤ a) : a ∉ X.fs := fun hb => by
  obtain ⟨_, o, ho, _⟩ := I.ok.funs.mem hb
  exact absurd (Nat.lt_of_lt_of_le (Heap.lt_size ho) (Nat.le_trans I.sz h)) (Nat.lt_irrefl _)
theorem Inv.cne (I : Inv X pins σ H s) : ∀ x c, X.env.cells.lookup x = some c → c ≠ X.env.locals := fun x c e z => by
  obtain ⟨v, o, ho, hd⟩ := I.cell x c e
  obtain ⟨m, ⟨o', es, ep, ho', hd', _⟩, _⟩ := I.loc
  rw [z, ho'] at ho; cases ho; rw [hd'] at hd; cases hd
theorem Inv.funs (I : Inv X pins σ H s) : s.heap.FunFrames X.base X.outer := by
  have all : ∀ (l : List Env), (∀ b ∈ frs l, b ∈ X.fs) → X.s_0.heap.FunFrames X.base l → s.heap.FunFrames X.base l := by
    intro l
    induction l with
    | nil => intro _ _; trivial
    | cons env r ih =>
      intro hs hl
      obtain ⟨hk, ⟨L, o, hf, hn, ho, hd⟩, hr⟩ := hl
      have hL : L ∈ X.fs := hs L (by unfold frs; rw [List.filterMap_cons, hf]; exact List.mem_cons_self)
      obtain ⟨sl, e⟩ := I.base.slot L o ho (I.ok.frf L hL) hL fun z => I.ok.exfs L z hL
      exact ⟨hk, ⟨L, _, hf, hn, e, hd⟩, ih (fun b hb => hs b (by unfold frs; rw [List.filterMap_cons, hf]; exact List.mem_cons_of_mem _ hb)) hr⟩
  exact all X.outer (fun _ hb => hb) I.ok.funs

/-- the frames that run, for a call -/
theorem Inv.stack (I : Inv X pins σ H s) : s.heap.FunFrames X.base X.stack := by
  rcases I.ok.stk with e | ⟨e, hf⟩
  · rw [e]; exact I.funs
  · rw [e]
    obtain ⟨m, hn, _⟩ := I.loc
    refine .cons (by rw [I.ok.kind]; decide) hf hn ?_ I.funs
    exact Heap.get?_none_of_le (Nat.le_trans I.ok.bsz I.ok.above)
theorem Inv.stkSub (I : Inv X pins σ H s) : ∀ b ∈ frs X.stack, b ∈ X.env.locals :: X.fs := fun b hb => by
  rcases I.ok.stk with e | ⟨e, hf⟩
  · rw [e] at hb; exact List.mem_cons_of_mem _ hb
  · rw [e] at hb
    unfold frs at hb
    rw [List.filterMap_cons, hf] at hb
    exact hb
theorem Inv.stkFree (I : Inv X pins σ H s) : ∀ b ∈ frs X.stack, H b = none := fun b hb => by
  rcases List.mem_cons.mp (I.stkSub b hb) with e | hb
  · rw [e]; exact I.free
  · obtain ⟨_, o, ho, _⟩ := I.ok.funs.mem hb
    exact I.base.free b o ho (I.ok.frf b hb) fun z => I.ok.exfs b z hb

/-- THE STEP: the untracked objects but the frame and the records at ch are kept (the callers' frames up to slots), the frame's map is kept, the new abstract heap is held -/
theorem Inv.step {g' : Array GenState} {t' : Nat} {d' : Drawn} {ch : List Addr} (I : Inv X pins σ H s)
    (hch : ∀ b ∈ ch, (b ∈ X.ex ∨ X.s_0.heap.objs.size ≤ b) ∧ b ≠ X.env.locals ∧ (∀ x c, X.env.cells.lookup x = some c → c ≠ b) ∧ ∀ p ∈ X.pn ++ pins, p.1 ≠ b)
    (keep : ∀ b o, b ≠ X.env.locals → b ∉ X.fs → b ∉ ch → s.heap.get? b = some o → H b = none → h'.get? b = some o)
    (slot : ∀ b o, b ≠ X.env.locals → b ∈ X.fs → b ∉ ch → s.heap.get? b = some o → H b = none → ∃ sl, h'.get? b = some { o with slots := sl }) (free : ∀ b o, b ∉ ch → s.heap.get? b = some o → H b = none → H' b = none)
    (there : ∀ b o, b ∉ ch → s.heap.get? b = some o → ∃ o', h'.get? b = some o')
    (tups : ∀ b xs, H b = some (.tup xs) → H' b = some (.tup xs)) (frzs : ∀ b o u, H b = some (.frz o u) → H' b = some (.frz o u)) (tbls : ∀ b ps, H b = some (.tbl ps) → ∃ more, H' b = some (.tbl (ps ++ more)))
    (ns : ∀ m, s.heap.Ns X.env.locals m → h'.Ns X.env.locals m) (hok : HOk X.prog X.w H' h') (hg : AllBare g') :
    Inv X pins σ H' { s with heap := h', gens := g', drawn := d', toks := t' } := by
  have neL : ∀ b o, X.s_0.heap.get? b = some o → b ≠ X.env.locals := fun b o e => Nat.ne_of_lt (Nat.lt_of_lt_of_le (Heap.lt_size e) I.ok.above)
  have neC : ∀ b o, X.s_0.heap.get? b = some o → b ∉ X.ex → b ∉ ch := fun b o e hx hb => by
    rcases (hch b hb).1 with z | z
    · exact hx z
    · exact absurd (Nat.lt_of_lt_of_le (Heap.lt_size e) z) (Nat.lt_irrefl _)
  have cellK : ∀ x c, X.env.cells.lookup x = some c → ∀ v, s.heap.IsCell c v → h'.IsCell c v := fun x c e v ⟨o, ho, hd⟩ => by
    have nch : c ∉ ch := fun z => (hch c z).2.2.1 x c e rfl
    by_cases hc : c ∈ X.fs
    · obtain ⟨sl, q⟩ := slot c o (I.cne x c e) hc nch ho (I.freeC x c e)
      exact ⟨_, q, hd⟩
    · exact ⟨o, keep c o (I.cne x c e) hc nch ho (I.freeC x c e), hd⟩
  refine ⟨I.ok, I.os, hg, ⟨fun b o e n hb hx => ?_, fun b o e n hb hx => ?_, fun b o e n hx => ?_, fun b o e hx => ?_, fun b xs e => tups b xs (I.base.tups b xs e), fun b o xs e => frzs b o xs (I.base.frzs b o xs e), fun b ps e => ?_⟩, ?_, fun x c e => ?_, ?_, fun x c e => ?_, fun p hp => ?_, hok, I.len⟩
  · exact keep b o (neL b o e) hb (neC b o e hx) (I.base.keep b o e n hb hx) (I.base.free b o e n hx)
  · obtain ⟨sl, e1⟩ := I.base.slot b o e n hb hx
    obtain ⟨sl', e2⟩ := slot b _ (neL b o e) hb (neC b o e hx) e1 (I.base.free b o e n hx)
    exact ⟨sl', e2⟩
  · obtain ⟨o', e1⟩ := I.base.there b o e hx
    exact free b o' (neC b o e hx) e1 (I.base.free b o e n hx)
  · obtain ⟨o', e1⟩ := I.base.there b o e hx
    exact there b o' (neC b o e hx) e1
  · obtain ⟨m1, e1⟩ := I.base.tbls b ps e
    obtain ⟨m2, e2⟩ := tbls b _ e1
    exact ⟨m1 ++ m2, by rw [e2, Array.append_assoc]⟩
  · obtain ⟨m, hn, hl⟩ := I.loc
    refine ⟨m, ns m hn, fun i x v e1 e2 e3 => ?_⟩
    obtain ⟨u, r, l⟩ := hl i x v e1 e2 e3
    refine ⟨u, r, ?_⟩
    rcases l with l | ⟨k, c, e, z⟩
    · exact .inl l
    · exact .inr ⟨k, c, e, cellK x c e _ z⟩
  · obtain ⟨v, z⟩ := I.cell x c e
    exact ⟨v, cellK x c e v z⟩
  · obtain ⟨m, ⟨o, _, _, ho, _⟩, _⟩ := I.loc
    exact free _ o (fun z => (hch _ z).2.1 rfl) ho I.free
  · obtain ⟨v, o, ho, hd⟩ := I.cell x c e
    exact free c o (fun z => (hch c z).2.2.1 x c e rfl) ho (I.freeC x c e)
  · obtain ⟨e, n, ne, nf, d⟩ := I.pin p hp
    have nch : p.1 ∉ ch := fun z => (hch p.1 z).2.2.2 p hp rfl
    exact ⟨keep p.1 p.2 ne nf nch e n, free p.1 p.2 nch e n, ne, nf, d⟩
/-- .. where the frame's own object is kept too -/
theorem Inv.un {t' : Nat} (I : Inv X pins σ H s) (u : Un X.fs [] H H' s.heap h') (hok : HOk X.prog X.w H' h') : Inv X pins σ H' { s with heap := h', toks := t' } := by
  obtain ⟨m, ⟨o, es, ep, ho, r⟩, _⟩ := id I.loc
  obtain ⟨sl, hL⟩ := u.any ho I.free (by simp)
  exact I.step (g' := s.gens) (d' := s.drawn) (ch := []) (fun _ z => nomatch z) (fun b o _ hb _ e n => u.keep b o e n hb (by simp)) (fun b o _ hb _ e n => u.slot b o e n hb (by simp)) (fun b o _ e n => u.free b o e n (by simp)) (fun b o _ e => u.there b o e (by simp)) u.tups u.frzs u.tbls (fun m' hm => by
    obtain ⟨o', es', ep', ho', r'⟩ := hm
    rw [ho] at ho'; cases ho'
    exact ⟨_, es', ep', hL, r'⟩) hok I.bare
/-- behind a call (or a comprehension's block): the slots of this frame may have changed too, the records at ch may have turned -/
theorem Inv.call {g' : Array GenState} {t' : Nat} {d' : Drawn} {ch : List Addr} (I : Inv X pins σ H s) (u : Un (frs X.stack) ch H H' s.heap h') (hok : HOk X.prog X.w H' h') (hg : AllBare g')
    (hch : ∀ b ∈ ch, (b ∈ X.ex ∨ X.s_0.heap.objs.size ≤ b) ∧ b ≠ X.env.locals ∧ (∀ x c, X.env.cells.lookup x = some c → c ≠ b) ∧ ∀ p ∈ X.pn ++ pins, p.1 ≠ b) :
    Inv X pins σ H' { s with heap := h', gens := g', drawn := d', toks := t' } := by
  obtain ⟨m, ⟨o, es, ep, ho, r⟩, _⟩ := id I.loc
  obtain ⟨sl, hL⟩ := u.any ho I.free fun z => (hch _ z).2.1 rfl
  exact I.step (ch := ch) hch (fun b o hL hb hc e n => u.keep b o e n (fun z => (List.mem_cons.mp (I.stkSub b z)).elim hL hb) hc) (fun b o _ _ hc e n => u.any e n hc) (fun b o hc e n => u.free b o e n hc) (fun b o hc e => u.there b o e hc) u.tups u.frzs u.tbls (fun m' hm => by
    obtain ⟨o', es', ep', ho', r'⟩ := hm
    rw [ho] at ho'; cases ho'
    exact ⟨_, es', ep', hL, r'⟩) hok hg
/-- an untracked record of ours (an iterator) has turned -/
theorem Inv.turned {t' : Nat} {it : Addr} (I : Inv X pins σ H s) (k : ∀ b o, b ≠ it → s.heap.get? b = some o → h'.get? b = some o) (hn : H it = none) (hL : it ≠ X.env.locals)
    (h1 : it ∈ X.ex ∨ X.s_0.heap.objs.size ≤ it) (h2 : ∀ x c, X.env.cells.lookup x = some c → c ≠ it) (h3 : ∀ p ∈ X.pn ++ pins, p.1 ≠ it) : Inv X pins σ H { s with heap := h', toks := t' } := by
  have nit : ∀ b u, H b = some u → b ≠ it := fun b u e z => by rw [z, hn] at e; cases e
  refine I.step (g' := s.gens) (d' := s.drawn) (ch := [it]) (fun b hb => ?_) (fun b o _ _ hc e _ => k b o (fun z => hc (by simp [z])) e) (fun b o _ _ hc e _ => ⟨o.slots, k b o (fun z => hc (by simp [z])) e⟩) (fun _ _ _ _ n => n)
    (fun b o hc e => ⟨o, k b o (fun z => hc (by simp [z])) e⟩) (fun _ _ e => e) (fun _ _ _ e => e) (fun b ps e => ⟨#[], by rw [e]; simp⟩) (fun m hm => ?_) (fun b u e => ?_) I.bare
  · have e : b = it := by simpa using hb
    subst e
    exact ⟨h1, hL, h2, h3⟩
  · obtain ⟨o, es, ep, ho, r⟩ := hm
    exact ⟨o, es, ep, k _ o (Ne.symm hL) ho, r⟩
  · refine (I.hok b u e).stay (fun c v hc q => k c v ?_ q) (fun _ q => q) fun _ _ q => q
    rcases hc with z | z
    · rw [z]; exact nit b u e
    · exact nit c _ z
theorem Inv.tok (I : Inv X pins σ H s) (t : Nat) : Inv X pins σ H { s with toks := t } := I.un (h' := s.heap) (t' := t) Un.refl I.hok
/-- all objects kept -/
theorem Inv.kept {t' : Nat} (I : Inv X pins σ H s) (k : ∀ b u, s.heap.get? b = some u → h'.get? b = some u) : Inv X pins σ H { s with heap := h', toks := t' } := I.un (Un.kept k) (I.hok.kept k)
/-- a new object laid and tracked -/
theorem Inv.laid {a : Addr} {o : HO} {t' : Nat} (I : Inv X pins σ H s) (k : ∀ b u, s.heap.get? b = some u → h'.get? b = some u) (hp : s.heap.objs.size ≤ a) (new : ObjOk X.prog X.w (upd H a o) h' a o) :
    Inv X pins σ (upd H a o) { s with heap := h', toks := t' } := I.un (Un.laid k hp (I.hok.fresh hp)) (I.hok.laid k hp new)
/-- an object written -/
theorem Inv.write {x e : Addr} {o : HO} {t' : Nat} (I : Inv X pins σ H s) (mu : Mut (H x)) (he : e = x ∨ H e = some (.own x)) (k : ∀ b u, b ≠ e → s.heap.get? b = some u → h'.get? b = some u) (heo : ∃ u, h'.get? e = some u)
    (new : ObjOk X.prog X.w (upd H x o) h' x o) : Inv X pins σ (upd H x o) { s with heap := h', toks := t' } := I.un (Un.write mu he k heo) (I.hok.write mu he k heo new)
/-- forgetting slots, pins -/
theorem Inv.weak {σ' : List (Option V)} (I : Inv X pins σ H s) (hl : σ'.length = σ.length) (w : ∀ (i : Nat) v, σ'[i]? = some (some v) → σ[i]? = some (some v)) : Inv X pins σ' H s :=
  ⟨I.ok, I.os, I.bare, I.base, let ⟨m, hn, hl'⟩ := I.loc; ⟨m, hn, fun i x v e1 e2 e3 => hl' i x v e1 (w i v e2) e3⟩, I.cell, I.free, I.freeC, I.pin, I.hok, hl.trans I.len⟩
theorem Inv.pins_of {pins' : List (Addr × Obj)} (I : Inv X pins σ H s) (h : ∀ p ∈ pins', s.heap.get? p.1 = some p.2 ∧ H p.1 = none ∧ p.1 ≠ X.env.locals ∧ p.1 ∉ X.fs ∧ ∀ v, p.2.data ≠ .cell v) : Inv X pins' σ H s :=
  ⟨I.ok, I.os, I.bare, I.base, I.loc, I.cell, I.free, I.freeC, fun p hp => (List.mem_append.mp hp).elim (fun z => I.pin p (List.mem_append_left _ z)) (h p), I.hok, I.len⟩

theorem nodup_ix {N : List Str} (hN : N.Nodup) {i j : Nat} {x : Str} (a : N[i]? = some x) (b : N[j]? = some x) : i = j := by
  obtain ⟨h1, e1⟩ := List.getElem?_eq_some_iff.mp a
  obtain ⟨h2, e2⟩ := List.getElem?_eq_some_iff.mp b
  exact (List.getElem_inj hN).mp (e1.trans e2.symm)

/-- a name is stored; what changed -/
theorem store_ok2 {M : Model} {A : Around} {E : Value → Shared → Prop} {i : Nat} {x : Str} {v : V} {u : Value} {Q : Unit → Shared → Prop} (I : Inv X pins σ H s) (hN : X.N.Nodup) (hi : X.N[i]? = some x) (hx : Loc X.env.scope x) (r : RelV v u)
    (h : ∀ s', Inv X pins (σ.set i (some v)) H s' → (∃ a, Heap.SameBut a s.heap s'.heap ∧ (a = X.env.locals ∨ X.env.cells.lookup x = some a)) → Q () s') (hf : X.fn x = true ∨ X.env.scope.names.lookup x = some .local := by first | exact .inl rfl | exact .inr rfl | assumption) : wpAny M A (storeName X.env x u) Q E s := by
  obtain ⟨m, hn, hl⟩ := id I.loc
  have hcls : (X.env.scope.kind == .class || (X.env.scope.kind == .module && X.env.locals != X.env.globals)) = false := by rw [I.ok.kind]; rfl
  have hiσ : i < σ.length := by rw [I.len]; exact (List.getElem?_eq_some_iff.mp hi).1
  have cne := I.cne
  have tracked : ∀ {a : Addr} {h' : Heap}, (∃ o, s.heap.get? a = some o ∧ H a = none) → Heap.SameBut a s.heap h' → HOk X.prog X.w H h' := fun {a h'} ha hs b ob e => by
    obtain ⟨_, _, hfree⟩ := ha
    refine (I.hok b ob e).stay (fun c w' hc q => (hs.2 c ?_).trans q) (fun _ q => q) fun _ _ q => q
    rintro rfl
    rcases hc with rfl | hc
    · rw [hfree] at e; cases e
    · rw [hfree] at hc; cases hc
  rcases hx with hk | hk
  · refine wpAny_storeName_local hk hn (fun h' hn' hs => ?_) hcls
    obtain ⟨oL, _, _, hoL, _⟩ := id hn
    refine h _ ⟨I.ok, I.os, I.bare, ⟨fun b o e n hb hx => ?_, fun b o e n hb hx => ?_, I.base.free, fun b o e hx => ?_, I.base.tups, I.base.frzs, I.base.tbls⟩, ⟨_, hn', fun j y v' e1 e2 e3 => ?_⟩, fun y c e => ?_, I.free, I.freeC, fun p hp => ?_, tracked ⟨oL, hoL, I.free⟩ hs, by simpa using I.len⟩ ⟨_, hs, .inl rfl⟩
    · exact (hs.2 b (Nat.ne_of_lt (Nat.lt_of_lt_of_le (Heap.lt_size e) I.ok.above))).trans (I.base.keep b o e n hb hx)
    · obtain ⟨sl, e1⟩ := I.base.slot b o e n hb hx
      exact ⟨sl, (hs.2 b (Nat.ne_of_lt (Nat.lt_of_lt_of_le (Heap.lt_size e) I.ok.above))).trans e1⟩
    · obtain ⟨o', e1⟩ := I.base.there b o e hx
      exact ⟨o', (hs.2 b (Nat.ne_of_lt (Nat.lt_of_lt_of_le (Heap.lt_size e) I.ok.above))).trans e1⟩
    · by_cases hj : j = i
      · subst hj
        rw [hi] at e1; cases e1
        rw [List.getElem?_set_self hiσ] at e2
        cases e2
        exact ⟨u, r, .inl ⟨hk, by simp⟩⟩
      · rw [List.getElem?_set_ne (Ne.symm hj)] at e2
        obtain ⟨u', r', q⟩ := hl j y v' e1 e2 e3
        refine ⟨u', r', ?_⟩
        rcases q with ⟨k, e⟩ | ⟨k, c, e, z⟩
        · refine .inl ⟨k, ?_⟩
          have : y ≠ x := fun e => hj (nodup_ix hN e1 (e ▸ hi))
          simp [this, e]
        · exact .inr ⟨k, c, e, z.sameBut hs (cne y c e)⟩
    · obtain ⟨w', z⟩ := I.cell y c e
      exact ⟨w', z.sameBut hs (cne y c e)⟩
    · obtain ⟨e, n, ne, nf, d⟩ := I.pin p hp
      exact ⟨(hs.2 p.1 ne).trans e, n, ne, nf, d⟩
  · have hfn : X.fn x = true := by
      rcases hf with z | z
      · exact z
      · rw [z] at hk; cases hk
    obtain ⟨c, hc⟩ := I.ok.has x (.inl hk)
    obtain ⟨w', z⟩ := I.cell x c hc
    refine wpAny_storeName_cell I.ok.kind hk hc z (fun h' hc' hs => ?_)
    obtain ⟨oc, hoc, hocd⟩ := id z
    refine h { s with heap := h' } ⟨I.ok, I.os, I.bare, ⟨fun b o e n hb hx => ?_, fun b o e n hb hx => ?_, I.base.free, fun b o e hx => ?_, I.base.tups, I.base.frzs, I.base.tbls⟩, ⟨m, hn.sameBut hs (Ne.symm (cne x c hc)), fun j y v' e1 e2 e3 => ?_⟩, fun y c' e => ?_, I.free, I.freeC, fun p hp => ?_, tracked ⟨oc, hoc, I.freeC x c hc⟩ hs, by simpa using I.len⟩ ⟨c, hs, .inr hc⟩
    · exact (hs.2 b (Nat.ne_of_lt (Nat.lt_of_lt_of_le (Heap.lt_size e) (I.ok.cab x c hfn hc)))).trans (I.base.keep b o e n hb hx)
    · obtain ⟨sl, e1⟩ := I.base.slot b o e n hb hx
      exact ⟨sl, (hs.2 b (Nat.ne_of_lt (Nat.lt_of_lt_of_le (Heap.lt_size e) (I.ok.cab x c hfn hc)))).trans e1⟩
    · obtain ⟨o', e1⟩ := I.base.there b o e hx
      exact ⟨o', (hs.2 b (Nat.ne_of_lt (Nat.lt_of_lt_of_le (Heap.lt_size e) (I.ok.cab x c hfn hc)))).trans e1⟩
    · by_cases hj : j = i
      · subst hj
        rw [hi] at e1; cases e1
        rw [List.getElem?_set_self hiσ] at e2
        cases e2
        exact ⟨u, r, .inr ⟨.inl hk, c, hc, hc'⟩⟩
      · rw [List.getElem?_set_ne (Ne.symm hj)] at e2
        obtain ⟨u', r', q⟩ := hl j y v' e1 e2 e3
        refine ⟨u', r', ?_⟩
        rcases q with q | ⟨k, c', e, z'⟩
        · exact .inl q
        · refine .inr ⟨k, c', e, z'.sameBut hs ?_⟩
          rintro rfl
          exact hj (nodup_ix hN e1 (I.ok.inj _ _ _ e hc ▸ hi))
    · by_cases hcc : c' = c
      · subst hcc; exact ⟨_, hc'⟩
      · obtain ⟨w2, z2⟩ := I.cell y c' e
        exact ⟨w2, z2.sameBut hs hcc⟩
    · obtain ⟨e, n, ne, nf, d⟩ := I.pin p hp
      refine ⟨(hs.2 p.1 ?_).trans e, n, ne, nf, d⟩
      intro q
      rw [q, hoc] at e
      have q' : oc = p.2 := Option.some.inj e
      exact d w' (by rw [← q']; exact hocd)
theorem store_ok {M : Model} {A : Around} {E : Value → Shared → Prop} {i : Nat} {x : Str} {v : V} {u : Value} {Q : Unit → Shared → Prop} (I : Inv X pins σ H s) (hN : X.N.Nodup) (hi : X.N[i]? = some x) (hx : Loc X.env.scope x) (r : RelV v u)
    (h : ∀ s', Inv X pins (σ.set i (some v)) H s' → Q () s') (hf : X.fn x = true ∨ X.env.scope.names.lookup x = some .local := by first | exact .inl rfl | exact .inr rfl | assumption) : wpAny M A (storeName X.env x u) Q E s :=
  store_ok2 I hN hi hx r (fun s' I' _ => h s' I') hf
/-- behind a call or a block, the state as it is -/
theorem Inv.call' {s' : Shared} {ch : List Addr} (I : Inv X pins σ H s) (ho : s'.os = s.os) (u : Un (frs X.stack) ch H H' s.heap s'.heap) (hok : HOk X.prog X.w H' s'.heap) (hg : AllBare s'.gens)
    (hch : ∀ b ∈ ch, (b ∈ X.ex ∨ X.s_0.heap.objs.size ≤ b) ∧ b ≠ X.env.locals ∧ (∀ x c, X.env.cells.lookup x = some c → c ≠ b) ∧ ∀ p ∈ X.pn ++ pins, p.1 ≠ b) : Inv X pins σ H' s' := by
  obtain ⟨h', g', d', t', o'⟩ := s'
  have e : o' = s.os := ho
  subst e
  exact I.call (g' := g') (t' := t') (d' := d') u hok hg hch
end

/-! ### the judgements -/
/-- an exception: its class, its own dict's address (where it has one), the abstract heap behind it -/
abbrev XK := Value → Option Addr → Hp → Prop
abbrev St := List (Option V)
abbrev VK := V → Hp → Prop
/-- an expression's reading; a test's; an argument list's -/
abbrev TE := St → Hp → VK → Prop
abbrev TT := St → Hp → (Bool → Hp → Prop) → Prop
abbrev TA := St → Hp → (List V → Hp → Prop) → Prop
/-- what is wanted behind a statement -/
structure Ends where
  nx : St → Hp → Prop
  rt : VK
  bk : St → Hp → Prop := fun _ _ => False
  ct : St → Hp → Prop := fun _ _ => False
abbrev TS := Ends → St → Hp → Prop

def EP (X : Cx) (pins : List (Addr × Obj)) (σ : St) (Q : VK) (u : Value) (s' : Shared) : Prop := ∃ v H', Inv X pins σ H' s' ∧ RelV v u ∧ Q v H'
def TP (X : Cx) (pins : List (Addr × Obj)) (σ : St) (Q : Bool → Hp → Prop) (b : Bool) (s' : Shared) : Prop := ∃ H', Inv X pins σ H' s' ∧ Q b H'
def AP (X : Cx) (pins : List (Addr × Obj)) (σ : St) (Q : List V → Hp → Prop) (us : List Value) (s' : Shared) : Prop := ∃ vs H', Inv X pins σ H' s' ∧ Vals vs us ∧ Q vs H'
def SP (X : Cx) (pins : List (Addr × Obj)) (D : Ends) (f : Flow) (s' : Shared) : Prop :=
  match f with
  | .next => ∃ σ' H', Inv X pins σ' H' s' ∧ D.nx σ' H'
  | .brk => ∃ σ' H', Inv X pins σ' H' s' ∧ D.bk σ' H'
  | .cont => ∃ σ' H', Inv X pins σ' H' s' ∧ D.ct σ' H'
  | .ret u => ∃ v σ' H', Inv X pins σ' H' s' ∧ RelV v u ∧ D.rt v H'

def PE (X : Cx) (e : Expr) (t : TE) : Prop :=
  ∀ (pins : List (Addr × Obj)) (s : Shared) (σ : St) (H : Hp) (Q : VK), Inv X pins σ H s → t σ H Q → wpAny (model X.prog X.w) X.A (eval e X.env) (EP X pins σ Q) X.xe s
def PT (X : Cx) (e : Expr) (t : TT) : Prop :=
  ∀ (pins : List (Addr × Obj)) (s : Shared) (σ : St) (H : Hp) (Q : Bool → Hp → Prop), Inv X pins σ H s → t σ H Q → wpAny (model X.prog X.w) X.A (isTrue e X.env (eval e X.env)) (TP X pins σ Q) X.xe s
/-- an argument list (no star), from the left -/
def PA (X : Cx) (es : List Expr) (t : TA) : Prop :=
  ∀ (pos : Pos) (pins : List (Addr × Obj)) (s : Shared) (σ : St) (H : Hp) (Q : List V → Hp → Prop), Inv X pins σ H s → t σ H Q → wpAny (model X.prog X.w) X.A (spliced (backTo pos (starEach es X.env))) (AP X pins σ Q) X.xe s
def PS (X : Cx) (st : Stmt) (t : TS) : Prop :=
  ∀ (pins : List (Addr × Obj)) (s : Shared) (σ : St) (H : Hp) (D : Ends), Inv X pins σ H s → t D σ H → wpAny (model X.prog X.w) X.A (exec st X.env) (SP X pins D) X.xe s
def PSs (X : Cx) (st : List Stmt) (t : TS) : Prop :=
  ∀ (pins : List (Addr × Obj)) (s : Shared) (σ : St) (H : Hp) (D : Ends), Inv X pins σ H s → t D σ H → wpAny (model X.prog X.w) X.A (execs st X.env) (SP X pins D) X.xe s
/-- weaken the end -/
theorem thn {α : Type} {t : Sem α} {Q Q' : α → Shared → Prop} {M : Model} {A : Around} {E : Value → Shared → Prop} {s : Shared} (h : wpAny M A t Q E s) (hQ : ∀ a s, Q a s → Q' a s) : wpAny M A t Q' E s := wpAny_mono h hQ fun _ _ x => x
end L2

namespace L2
open PySem PySem.Spec PyProof.Rows
section
variable {X : Cx}

/-- two expressions in a row -/
theorem bin {a b : Expr} {ta tb : TE} (ha : PE X a ta) (hb : PE X b tb) {pins : List (Addr × Obj)} {s : Shared} {σ : St} {H : Hp} {R : V → V → Hp → Prop} (I : Inv X pins σ H s) (h : ta σ H fun x H1 => tb σ H1 fun y H2 => R x y H2)
    {α : Type} {Q : α → Shared → Prop} {f : Value → Value → Sem α}
    (hf : ∀ v u s2 x y H2, Inv X pins σ H2 s2 → RelV x v → RelV y u → R x y H2 → wpAny (model X.prog X.w) X.A (f v u) Q X.xe s2) :
    wpAny (model X.prog X.w) X.A (eval a X.env) (fun v s₁ => wpAny (model X.prog X.w) X.A (eval b X.env) (fun u s₂ => wpAny (model X.prog X.w) X.A (f v u) Q X.xe s₂) X.xe s₁) X.xe s := by
  refine thn (ha pins s σ H _ I h) fun v s1 ⟨x, H1, I1, r1, q1⟩ => ?_
  refine thn (hb pins s1 σ H1 _ I1 q1) fun u s2 ⟨y, H2, I2, r2, q2⟩ => ?_
  exact hf v u s2 x y H2 I2 r1 r2 q2

/-! ### names and constants -/
def tVar (i : Nat) : TE := fun σ H Q => ∃ v, σ[i]? = some (some v) ∧ Q v H
def tC (v : V) : TE := fun _ H Q => Q v H
theorem pe_var {i : Nat} {x : Str} {pos : Pos} (hN : X.N[i]? = some x) (hv : Vis X.env.scope x) (hd : (x == ("__debug__" : Str)) = false := by decide) (hcd : (x == ("__classdict__" : Str)) = false := by decide) : PE X (.Name x pos) (tVar i) := by
  intro pins s σ H Q I h
  obtain ⟨v, e, h⟩ := h
  obtain ⟨m, hn, hl⟩ := I.loc
  obtain ⟨u, r, l⟩ := hl i x v hN e hv
  have fin : EP X pins σ Q u s := ⟨v, H, I, r, h⟩
  rcases l with ⟨hk, hm⟩ | ⟨hk, c, hc, hcell⟩
  · exact wpAny_Name (wpAny_loadName_local I.ok.kind hk hn hm fin) hd
  · rcases hk with hk | hk
    · exact wpAny_Name (wpAny_loadName_cell I.ok.kind hk hc hcell fin) hd
    · exact wpAny_Name (wpAny_loadName_free I.ok.kind hk hc hcell fin hcd) hd
theorem pe_int {i j pos} : PE X (.Constant (.int i) j pos) (tC (.int i)) := fun _ _ _ H _ I h => wpAny_Constant_int ⟨.int i, H, I.tok _, ⟨_, rfl⟩, h⟩
/-- a global name of the def -/
def Gl (X : Cx) (x : Str) : Prop := X.env.kindOf x = some .globalImplicit
theorem ld_glob {E : Value → Shared → Prop} {pins : List (Addr × Obj)} {s : Shared} {σ : St} {H : Hp} {x : Str} {u : Value} {pos : Pos} {Q : Value → Shared → Prop} (I : Inv X pins σ H s) (hg : Gl X x) (hm : X.mg x = some u) (h : Q u s)
    (hd : (x == ("__debug__" : Str)) = false := by decide) : wpAny (model X.prog X.w) X.A (eval (.Name x pos) X.env) Q E s :=
  Calls.Name_function_global I.ok.kind hg (Calls.loadGlobal_global (by rw [I.ok.glob]; exact I.mod.glob.keeps I.bk) hm h) hd
theorem ld_blt {E : Value → Shared → Prop} {pins : List (Addr × Obj)} {s : Shared} {σ : St} {H : Hp} {x : Str} {u : Value} {pos : Pos} {Q : Value → Shared → Prop} (I : Inv X pins σ H s) (hg : Gl X x) (hm : X.mg x = none) (hv : bootBuiltins x = some u) (h : Q u s)
    (hn : x ≠ "__name__" := by decide) (hd : (x == ("__debug__" : Str)) = false := by decide) : wpAny (model X.prog X.w) X.A (eval (.Name x pos) X.env) Q E s := by
  obtain ⟨mb, h1, h2⟩ := I.mod.blt
  exact Calls.Name_function_global I.ok.kind hg (Calls.loadGlobal_builtin (by rw [I.ok.glob]; exact I.mod.glob.keeps I.bk) hm (by rw [I.ok.blt]; exact h1.keeps I.bk) ((h2 x hn).trans hv) h) hd
/-- a module's constant, a class, a function, as a value -/
theorem pe_glob {x : Str} {v : V} {u : Value} {pos : Pos} (hg : Gl X x) (hm : X.mg x = some u) (r : RelV v u) (hd : (x == ("__debug__" : Str)) = false := by decide) : PE X (.Name x pos) (tC v) :=
  fun _ _ _ H _ I h => ld_glob I hg hm ⟨v, H, I, r, h⟩ hd
/-! ### arithmetic -/
variable {a b : Expr} {ta tb : TE} {pos : Pos}
/-! ### comparisons -/
/-! ### and, or, not -/
variable {tA tB' : TT} {rest : List Expr}
end
end L2

namespace L2
open PySem PySem.Spec PyProof.Rows

/-! ### a list, a tuple that is read: tracked, frozen, or an object of the module -/
def SqL (K : PySem.W.Frag) (H : Hp) (a : Addr) (xs : List V) : Prop :=
  Rd H a (.lst xs) ∨
    ∃ (o : Obj) (its : Array Value) (n : Nat), K.lookup a = some o ∧ o.cls = .type "list" ∧ o.dict = none ∧ o.data = .seq its n ∧ its.size ≤ sizeLine ∧ Vals xs its.toList
def SqT (K : PySem.W.Frag) (H : Hp) (a : Addr) (xs : List V) : Prop :=
  Rd H a (.tup xs) ∨
    ∃ (o : Obj) (its : Array Value) (n : Nat), K.lookup a = some o ∧ o.cls = .type "tuple" ∧ o.data = .seq its n ∧ its.size ≤ sizeLine ∧ Vals xs its.toList
def absV : Value → Option V
  | .none => some .non
  | .bool b => some (.bl b)
  | .int i _ => some (.int i)
  | .str x _ => some (.str x)
  | .bytes b _ => some (.byt b)
  | .float b _ => some (.flt b)
  | .ref a => some (.ref a)
  | .type n => some (.ty n)
  | _ => none
theorem RelV.abs {x : V} {u : Value} (r : RelV x u) : absV u = some x := by
  cases x with
  | non => cases r; rfl
  | bl _ => cases r; rfl
  | int _ => obtain ⟨t, rfl⟩ := r; rfl
  | str _ => obtain ⟨t, rfl⟩ := r; rfl
  | byt _ => obtain ⟨t, rfl⟩ := r; rfl
  | flt _ => obtain ⟨t, rfl⟩ := r; rfl
  | ref _ => cases r; rfl
  | ty _ => cases r; rfl
theorem RelV.inj {x y : V} {u : Value} (r : RelV x u) (q : RelV y u) : x = y := Option.some.inj (r.abs.symm.trans q.abs)
theorem Vals.inj : ∀ {xs ys : List V} {us : List Value}, Vals xs us → Vals ys us → xs = ys
  | _, _, _, .nil, .nil => rfl
  | _, _, _, .cons r t, .cons r' t' => by rw [r.inj r', Vals.inj t t']
section
variable {X : Cx} {pins : List (Addr × Obj)} {σ : St} {H : Hp} {s : Shared} {a : Addr} {xs ys : List V}
theorem SqL.of {K : PySem.W.Frag} (h : H a = some (.lst xs)) : SqL K H a xs := .inl (.inl h)
theorem SqT.of {K : PySem.W.Frag} (h : H a = some (.tup xs)) : SqT K H a xs := .inl (.inl h)
theorem Inv.list (I : Inv X pins σ H s) (h : SqL X.K H a xs) : ∃ its : List Value, Vals xs its ∧ PlainL s.heap a its.toArray ∧ xs.length ≤ sizeLine := by
  rcases h with h | ⟨o, its, n, hk, hc, hd, hs, hz, r⟩
  · obtain ⟨z, its, n, r, e⟩ := h.ok I.hok
    exact ⟨its, r, ⟨_, n, e, rfl, rfl, rfl⟩, z⟩
  · refine ⟨its.toList, r, ⟨o, n, I.kIn a o hk, hc, hd, by simpa using hs⟩, ?_⟩
    have e := r.length
    simp only [Array.length_toList] at e
    omega
theorem Inv.tuple (I : Inv X pins σ H s) (h : SqT X.K H a xs) : ∃ its : List Value, Vals xs its ∧ IsTup s.heap a its.toArray ∧ xs.length ≤ sizeLine := by
  rcases h with h | ⟨o, its, n, hk, hc, hs, hz, r⟩
  · obtain ⟨z, its, r, p⟩ := h.ok I.hok
    exact ⟨its, r, p, z⟩
  · refine ⟨its.toList, r, ⟨o, I.kIn a o hk, hc, n, by simpa using hs⟩, ?_⟩
    have e := r.length
    simp only [Array.length_toList] at e
    omega
theorem Inv.list_inj (I : Inv X pins σ H s) (h : SqL X.K H a xs) (h' : SqL X.K H a ys) : xs = ys := by
  obtain ⟨its, r, ⟨o, n, e, _, _, d⟩, _⟩ := I.list h
  obtain ⟨its', r', ⟨o', n', e', _, _, d'⟩, _⟩ := I.list h'
  rw [e] at e'; cases e'
  rw [d] at d'
  injection d' with d1 _
  have : its = its' := by simpa using congrArg Array.toList d1
  subst this
  exact r.inj r'
end

/-! ### another wish about exceptions -/
abbrev Cx.wish (X : Cx) (E : Value → Shared → Prop) : Cx := { X with xe := E }
/-- no exception leaves -/
abbrev Cx.nox (X : Cx) : Cx := X.wish fun _ _ => False
theorem Cx.Ok.wish {X : Cx} (ok : X.Ok) (E : Value → Shared → Prop) : (X.wish E).Ok :=
  ⟨ok.mod, ok.kind, ok.glob, ok.blt, ok.above, ok.inj, ok.has, ok.cab, ok.hd, ok.frames, ok.stk, ok.exf, ok.bs, ok.bsz, ok.noex, ok.exfs, ok.funs, ok.frf⟩
theorem Cx.Ok.unwish {X : Cx} {E : Value → Shared → Prop} (ok : (X.wish E).Ok) : X.Ok :=
  ⟨ok.mod, ok.kind, ok.glob, ok.blt, ok.above, ok.inj, ok.has, ok.cab, ok.hd, ok.frames, ok.stk, ok.exf, ok.bs, ok.bsz, ok.noex, ok.exfs, ok.funs, ok.frf⟩
section
variable {X : Cx} {pins : List (Addr × Obj)} {σ : St} {H : Hp} {s : Shared} {E : Value → Shared → Prop}
theorem Inv.wish (I : Inv X pins σ H s) (E : Value → Shared → Prop) : Inv (X.wish E) pins σ H s := ⟨I.ok.wish E, I.os, I.bare, I.base, I.loc, I.cell, I.free, I.freeC, I.pin, I.hok, I.len⟩
theorem Inv.unwish (I : Inv (X.wish E) pins σ H s) : Inv X pins σ H s := ⟨I.ok.unwish, I.os, I.bare, I.base, I.loc, I.cell, I.free, I.freeC, I.pin, I.hok, I.len⟩
theorem SP.unwish {D : Ends} {f : Flow} {s' : Shared} (h : SP (X.wish E) pins D f s') : SP X pins D f s' := by
  cases f with
  | next => obtain ⟨σ', H', I, q⟩ := h; exact ⟨σ', H', I.unwish, q⟩
  | brk => obtain ⟨σ', H', I, q⟩ := h; exact ⟨σ', H', I.unwish, q⟩
  | cont => obtain ⟨σ', H', I, q⟩ := h; exact ⟨σ', H', I.unwish, q⟩
  | ret u => obtain ⟨v, σ', H', I, r, q⟩ := h; exact ⟨v, σ', H', I.unwish, r, q⟩
theorem PSs.nox {st : List Stmt} {t : TS} (h : PSs X.nox st t) : PSs X st t := fun pins s σ H D I hw =>
  wpAny_mono (h pins s σ H D (I.wish _) hw) (fun _ _ q => q.unwish) fun _ _ z => False.elim z
end

/-! ### blocks and small statements -/
section
variable {X : Cx} {st : Stmt} {rest : List Stmt} {t u : TS} {e : Expr} {te : TE} {pos : Pos}
def tNext : TS := fun D σ H => D.nx σ H
def tSeq (t u : TS) : TS := fun D σ H => t { D with nx := u D } σ H
theorem pss_nil : PSs X [] tNext := fun _ _ σ H _ I h => wpAny_execs_nil ⟨σ, H, I, h⟩
theorem pss_cons (h1 : PS X st t) (h2 : PSs X rest u) : PSs X (st :: rest) (tSeq t u) := by
  intro pins s σ H D I h
  refine wpAny_execs_cons (thn (h1 pins s σ H { D with nx := u D } I h) fun f s1 q => ?_)
  cases f with
  | next =>
    obtain ⟨σ', H', I', q⟩ := q
    exact h2 pins s1 σ' H' D I' q
  | ret v => exact q
  | brk => exact q
  | cont => exact q
theorem pss_one (h1 : PS X st t) : PSs X [st] t := by
  intro pins s σ H D I h
  refine wpAny_execs_cons (thn (h1 pins s σ H D I h) fun f s1 q => ?_)
  cases f with
  | next => exact wpAny_execs_nil q
  | ret v => exact q
  | brk => exact q
  | cont => exact q
/-- in a def's body nothing is shown -/
theorem Inv.quiet {pins : List (Addr × Obj)} {σ : St} {H : Hp} {s : Shared} (I : Inv X pins σ H s) : interactive X.env = false := by simp [interactive, I.ok.kind]
/-- an expression whose value is dropped -/
def tDrop (te : TE) : TS := fun D σ H => te σ H fun _ H1 => D.nx σ H1
theorem ps_expr (he : PE X e te) (hs : swapsWith e none pos.line X.env = pure false := by rfl) : PS X (.Expr e pos) (tDrop te) := by
  intro pins s σ H D I h
  exact wpAny_Expr_any (thn (he pins s σ H _ I h) fun v s1 ⟨x, H1, I1, r1, q1⟩ => ⟨σ, H1, I1, q1⟩) I.quiet hs
def tRet (te : TE) : TS := fun D σ H => te σ H D.rt
theorem ps_ret (he : PE X e te) : PS X (.Return (some e) pos) (tRet te) := by
  intro pins s σ H D I h
  exact wpAny_Return_some (thn (he pins s σ H _ I h) fun v s1 ⟨x, H1, I1, r1, q1⟩ => ⟨x, σ, H1, I1, r1, q1⟩)
def tIfS (c : TT) (t u : TS) : TS := fun D σ H => c σ H fun b H1 => if b = true then t D σ H1 else u D σ H1
theorem ps_if {c : Expr} {a b : List Stmt} {tc : TT} (hc : PT X c tc) (ha : PSs X a t) (hb : PSs X b u) : PS X (.If c a b pos) (tIfS tc t u) := by
  intro pins s σ H D I h
  refine wpAny_If (thn (hc pins s σ H _ I h) fun d s1 ⟨H1, I1, q1⟩ => ?_)
  cases d with
  | true => exact ha pins s1 σ H1 D I1 q1
  | false => exact hb pins s1 σ H1 D I1 q1
end

/-! ### targets -/
abbrev TG := V → St → Hp → (St → Hp → Prop) → Prop
def PG (X : Cx) (target : Expr) (t : TG) : Prop :=
  ∀ (pins : List (Addr × Obj)) (s : Shared) (σ : St) (H : Hp) (v : V) (u : Value) (Q : St → Hp → Prop), Inv X pins σ H s → RelV v u → t v σ H Q →
    wpAny (model X.prog X.w) X.A (assign target X.env u) (fun _ s' => ∃ σ' H', Inv X pins σ' H' s' ∧ Q σ' H') X.xe s
/-- a op= b, by values -/
abbrev TIp := V → V → Hp → VK → Prop
def PIp (X : Cx) (op : Operator) (t : TIp) : Prop :=
  ∀ (pins : List (Addr × Obj)) (s : Shared) (σ : St) (H : Hp) (x y : V) (v u : Value) (Q : VK), Inv X pins σ H s → RelV x v → RelV y u → t x y H Q →
    wpAny (model X.prog X.w) X.A (inplaceOp op v u) (EP X pins σ Q) X.xe s
section
variable {X : Cx} {pos : Pos}
def gName (i : Nat) : TG := fun v σ H Q => Q (σ.set i (some v)) H
theorem pg_name {i : Nat} {x : Str} (hN : X.N.Nodup) (hi : X.N[i]? = some x) (hx : Loc X.env.scope x) (hf : X.fn x = true ∨ X.env.scope.names.lookup x = some .local := by first | exact .inl rfl | exact .inr rfl | assumption) : PG X (.Name x pos) (gName i) := by
  intro pins s σ H v u Q I r h
  exact wpAny_assign_Name (store_ok I hN hi hx r (fun s' I' => ⟨_, H, I', h⟩) hf)
/-- target = value -/
def tAsg (te : TE) (g : TG) : TS := fun D σ H => te σ H fun x H1 => g x σ H1 D.nx
/-- name = value -/
theorem ps_set {i : Nat} {x : Str} {e : Expr} {te : TE} {pos' : Pos} (hN : X.N.Nodup) (hi : X.N[i]? = some x) (hx : Loc X.env.scope x) (he : PE X e te) (hs : swapsWith e (some (.Name x pos')) pos.line X.env = pure false := by rfl) (hf : X.fn x = true ∨ X.env.scope.names.lookup x = some .local := by first | exact .inl rfl | exact .inr rfl | assumption) :
    PS X (.Assign [.Name x pos'] e pos) (tAsg te (gName i)) := by
  intro pins s σ H D I h
  refine wpAny_Assign_Name (thn (he pins s σ H _ I h) fun v s1 ⟨y, H1, I1, r1, q1⟩ => ?_) hs
  exact store_ok I1 hN hi hx r1 (fun s2 I2 => ⟨_, H1, I2, q1⟩) hf
/-- name op= e -/
def tAug (i : Nat) (te : TE) (ti : TIp) : TS := fun D σ H => ∃ x, σ[i]? = some (some x) ∧ te σ H fun y H1 => ti x y H1 fun z H2 => D.nx (σ.set i (some z)) H2
theorem ps_aug {i : Nat} {x : Str} {e : Expr} {te : TE} {op : Operator} {ti : TIp} {pos' : Pos} (hN : X.N.Nodup) (hi : X.N[i]? = some x) (hx : Loc X.env.scope x) (he : PE X e te) (ho : PIp X op ti) (hf : X.fn x = true ∨ X.env.scope.names.lookup x = some .local := by first | exact .inl rfl | exact .inr rfl | assumption) :
    PS X (.AugAssign (.Name x pos') op e pos) (tAug i te ti) := by
  intro pins s σ H D I h
  obtain ⟨v, e1, h⟩ := h
  obtain ⟨m, hn, hl⟩ := I.loc
  have vis : Vis X.env.scope x := by rcases hx with k | k; exact .inl k; exact .inr (.inl k)
  obtain ⟨u, r, l⟩ := hl i x v hi e1 vis
  refine wpAny_AugAssign_Name ?_
  have go : wpAny (model X.prog X.w) X.A (eval e X.env) (fun w s₂ => wpAny (model X.prog X.w) X.A (inplaceOp op u w) (fun r s₃ => wpAny (model X.prog X.w) X.A (storeName X.env x r) (fun _ => SP X pins D .next) X.xe s₃) X.xe s₂) X.xe s := by
    refine thn (he pins s σ H _ I h) fun w s1 ⟨y, H1, I1, r1, q1⟩ => ?_
    refine thn (ho pins s1 σ H1 v y u w _ I1 r r1 q1) fun z s2 ⟨zv, H2, I2, r2, q2⟩ => ?_
    exact store_ok I2 hN hi hx r2 (fun s3 I3 => ⟨_, H2, I3, q2⟩) hf
  rcases l with ⟨hk, hm⟩ | ⟨hk, c, hc, hcell⟩
  · exact wpAny_loadName_local I.ok.kind hk hn hm go
  · rcases hk with hk | hk
    · exact wpAny_loadName_cell I.ok.kind hk hc hcell go
    · rcases hx with k | k
      · have : X.env.scope.names.lookup x = some .free := hk
        rw [k] at this; cases this
      · have : X.env.scope.names.lookup x = some .free := hk
        rw [k] at this; cases this
end

/-! ### while -/
section
variable {X : Cx} {pos : Pos}
/-- the invariant W with its measure -/
def tWhile (c : TT) (tb : TS) : TS := fun D σ H => ∃ W : Nat → St → Hp → Prop, (∃ m, W m σ H) ∧ ∀ m σ H, W m σ H →
  c σ H fun b H1 => if b = true then ∃ N : St → Hp → Prop, (∀ σ' H', N σ' H' → ∃ m', m' < m ∧ W m' σ' H') ∧ tb { D with nx := N, ct := N, bk := D.nx } σ H1 else D.nx σ H1
theorem ps_while {c : Expr} {body : List Stmt} {tc : TT} {tb : TS} (hp : PassesOwn (model X.prog X.w) X.A X.env X.xe) (hc : PT X c tc) (hb : PSs X body tb) : PS X (.While c body [] pos) (tWhile tc tb) := by
  intro pins s σ H D I h
  obtain ⟨W, ⟨m0, w0⟩, turn⟩ := h
  refine wpAny_While (codeAny_whileLoop (fun n s' => ∃ σ' H', Inv X pins σ' H' s' ∧ W n σ' H') ?_ m0 ⟨σ, H, I, w0⟩)
  rintro n s1 ⟨σ1, H1, I1, w1⟩
  refine wpAny_passesOwn hp (thn (hc pins s1 σ1 H1 _ I1 (turn n σ1 H1 w1)) fun b s2 ⟨H2, I2, q2⟩ => ?_)
  cases b with
  | true =>
    obtain ⟨N, hN, q2⟩ := q2
    rw [if_pos rfl]
    refine wpAny_passesOwn hp (thn (hb pins s2 σ1 H2 _ I2 q2) fun f s3 q3 => ?_)
    cases f with
    | next =>
      obtain ⟨σ3, H3, I3, n3⟩ := q3
      obtain ⟨m', hm, w3⟩ := hN σ3 H3 n3
      exact ⟨m', hm, σ3, H3, I3, w3⟩
    | cont =>
      obtain ⟨σ3, H3, I3, n3⟩ := q3
      obtain ⟨m', hm, w3⟩ := hN σ3 H3 n3
      exact ⟨m', hm, σ3, H3, I3, w3⟩
    | brk => exact q3
    | ret v => exact q3
  | false =>
    rw [if_neg Bool.false_ne_true]
    exact wpAny_execs_nil ⟨σ1, H2, I2, q2⟩
end

/-! ### what a loop or a comprehension walks -/
/-- at turn i: it yields x (the heap may grow), or it stops -/
structure It where
  go : Nat → Hp → Prop
  yld : Nat → Hp → V → Hp → Prop
  stop : Nat → Hp → Prop
/-- the iterator's own objects may turn: they are not the frame's, not pinned, younger than the entry (or a comprehension's own) -/
def FpOk (X : Cx) (pins : List (Addr × Obj)) (H : Hp) (b : Addr) : Prop :=
  H b = none ∧ b ≠ X.env.locals ∧ b ∉ X.fs ∧ (b ∈ X.ex ∨ X.s_0.heap.objs.size ≤ b) ∧ (∀ x c, X.env.cells.lookup x = some c → c ≠ b) ∧ ∀ p ∈ X.pn ++ pins, p.1 ≠ b
theorem Inv.fpOk {X : Cx} {pins : List (Addr × Obj)} {σ : St} {H H' : Hp} {s : Shared} {b : Addr} (I : Inv X pins σ H s) (hb : s.heap.objs.size ≤ b) (hn : H' b = none) : FpOk X pins H' b := by
  refine ⟨hn, Nat.ne_of_gt (Nat.lt_of_lt_of_le I.lt hb), I.nofs hb, .inr (Nat.le_trans I.sz hb), fun x c e z => ?_, fun p hp z => ?_⟩
  · obtain ⟨v, q⟩ := I.cell x c e
    exact absurd (Nat.lt_of_lt_of_le q.lt (by rw [z]; exact hb)) (Nat.lt_irrefl _)
  · exact absurd (Nat.lt_of_lt_of_le (Heap.lt_size (I.pin p hp).1) (by rw [z]; exact hb)) (Nat.lt_irrefl _)
structure Turn (P : Program) (w : World) (K : PySem.W.Frag) (tg : Expr) (J : It) (fp : List Addr) (it : Addr) (tn : Nat → Heap → Prop) : Prop where
  mem : it ∈ fp
  obj : ∀ i h, tn i h → ∀ b ∈ fp, ∃ o, h.get? b = some o ∧ ∀ v, o.data ≠ .cell v
  keep : ∀ i h h', tn i h → (∀ b ∈ fp, ∀ o, h.get? b = some o → h'.get? b = some o) → tn i h'
  item : ∀ (X : Cx), X.prog = P → X.w = w → X.K = K → X.calm = true → ∀ (i : Nat) (pins : List (Addr × Obj)) (s : Shared) (σ : St) (H : Hp) (E : Value → Shared → Prop), Inv X pins σ H s → (∀ b ∈ fp, FpOk X pins H b) → tn i s.heap → J.go i H →
    wpAny (model P w) X.A (pyNext (.ref it)) (fun r s1 => ∃ u, r = some u ∧
      wpAny (model P w) X.A (letOwnedTupleGo tg (.ref it) u) (fun _ s2 => ∃ x H', Inv X pins σ H' s2 ∧ RelV x u ∧ J.yld i H x H' ∧ tn (i + 1) s2.heap ∧ ∀ b ∈ fp, H' b = none) E s1) E s
  done : ∀ (X : Cx), X.prog = P → X.w = w → X.K = K → X.calm = true → ∀ (i : Nat) (pins : List (Addr × Obj)) (s : Shared) (σ : St) (H : Hp) (E : Value → Shared → Prop), Inv X pins σ H s → (∀ b ∈ fp, FpOk X pins H b) → tn i s.heap → J.stop i H →
    wpAny (model P w) X.A (pyNext (.ref it)) (fun r s1 => r = none ∧ Inv X pins σ H s1) E s
  self : ∀ (A : Around) (i : Nat) (s : Shared) (Q : Value → Shared → Prop) (E : Value → Shared → Prop), tn i s.heap → Q (.ref it) s → wpAny (model P w) A (pyIter (.ref it)) Q E s
abbrev TI := St → Hp → (It → Hp → Prop) → Prop
/-- an iterator has come -/
def PIE (X : Cx) (pins : List (Addr × Obj)) (σ : St) (tg : Expr) (R : It → Hp → Prop) (itv : Value) (s2 : Shared) : Prop :=
  ∃ (it : Addr) (fp : List Addr) (tn : Nat → Heap → Prop) (J : It) (H' : Hp), itv = .ref it ∧ Inv X pins σ H' s2 ∧ Turn X.prog X.w X.K tg J fp it tn ∧ tn 0 s2.heap ∧ (∀ b ∈ fp, FpOk X pins H' b) ∧ R J H'
def PI (X : Cx) (tg iter : Expr) (wi : TI) : Prop :=
  ∀ (pins : List (Addr × Obj)) (s : Shared) (σ : St) (H : Hp) (R : It → Hp → Prop), Inv X pins σ H s → wi σ H R →
    wpAny (model X.prog X.w) X.A (eval iter X.env) (fun v s1 => wpAny (model X.prog X.w) X.A (pyIter v) (PIE X pins σ tg R) X.xe s1) X.xe s

/-- the step ahead of the store is nothing for an iterator that keeps no tuple -/
theorem go_of {M : Model} {A : Around} {E : Value → Shared → Prop} {s : Shared} {tg : Expr} {it : Addr} {u : Value} {o : Obj} {n : String} {vs : Array Value} {Q : Unit → Shared → Prop} (ho : s.heap.get? it = some o) (hc : o.cls = .type n) (hd : o.data = .fields vs)
    (hn : ["enumerate", "zip", "dict_itemiterator", "dict_reverseitemiterator", "odict_iterator", "itertools.zip_longest", "itertools.pairwise"].contains n = false) (hQ : Q () s) : wpAny M A (letOwnedTupleGo tg (.ref it) u) Q E s := by
  unfold letOwnedTupleGo
  cases tg <;> first
    | exact wpAny_pure hQ
    | (cases u <;> first
        | exact wpAny_pure hQ
        | (refine wpAny_bind (wpAny_load ho ?_)
           rw [hc, hd]
           show wpAny M A (if (["enumerate", "zip", "dict_itemiterator", "dict_reverseitemiterator", "odict_iterator", "itertools.zip_longest", "itertools.pairwise"].contains n && vs[0]? == some (rawInt _)) = true then _ else _) Q E s
           rw [if_neg (by intro h; rw [hn, Bool.false_and] at h; cases h)]
           exact wpAny_pure hQ))

/-- the list at a, as it stands at each turn (a loop may append to it) -/
def Itl (K : PySem.W.Frag) (a : Addr) : It :=
  ⟨fun i H => ∃ xs x, SqL K H a xs ∧ xs[i]? = some x, fun i H x H' => H' = H ∧ ∀ xs, SqL K H a xs → xs[i]? = some x, fun i H => ∃ xs, SqL K H a xs ∧ xs.length ≤ i⟩
/-- lo, lo + 1, .. (n of them) -/
def Itr (lo : Int) (n : Nat) : It := ⟨fun i _ => i < n, fun i H x H' => H' = H ∧ x = .int (lo + i), fun i _ => n ≤ i⟩
theorem turn_list {P : Program} {w : World} {K : PySem.W.Frag} {tg : Expr} (a it : Addr) : Turn P w K tg (Itl K a) [it] it (fun i h => h.IsListIter it a i) where
  mem := by simp
  obj := fun i h st b hb => by
    have e : b = it := by simpa using hb
    subst e
    obtain ⟨o, e, c, d⟩ := st
    exact ⟨o, e, fun v z => by rw [d] at z; cases z⟩
  keep := fun i h h' st k => st.at fun o e => k it (by simp) o e
  item := by
    intro X hP hw hK hc i pins s σ H E I hf st hg
    subst hP hw hK
    obtain ⟨xs, x, hq, hx⟩ := hg
    obtain ⟨its, rv, p, hz⟩ := I.list hq
    obtain ⟨u, hu, ru⟩ := rv.get hx
    obtain ⟨f0, f1, f2, f3, f4, f5⟩ := hf it (by simp)
    refine wpAny_pyNext_list_item st p.isList (x := u) (by simpa using hu) fun h' st' sb => ?_
    have I1 : Inv X pins σ H { s with heap := h' } := I.turned (t' := s.toks) (fun b o hb e => (sb.2 b hb).trans e) f0 f1 f3 f4 f5
    obtain ⟨o, e, c, d⟩ := id st'
    exact ⟨u, rfl, go_of (s := { s with heap := h' }) e c d (by decide) ⟨x, H, I1, ru, ⟨rfl, fun ys hy => by rw [I.list_inj hy hq]; exact hx⟩, st', fun b hb => (hf b hb).1⟩⟩
  done := by
    intro X hP hw hK hc i pins s σ H E I hf st hg
    subst hP hw hK
    obtain ⟨xs, hq, hx⟩ := hg
    obtain ⟨its, rv, p, hz⟩ := I.list hq
    obtain ⟨f0, f1, f2, f3, f4, f5⟩ := hf it (by simp)
    have hl := rv.length
    exact wpAny_pyNext_list_end (I.ok.hd hc) st p.isList (by simp; omega) fun h' eb => ⟨rfl, I.turned (t' := s.toks) (fun b o hb e => eb b o hb e) f0 f1 f3 f4 f5⟩
  self := fun _ _ _ _ _ st h => wpAny_pyIter_listiter st h
theorem turn_range {P : Program} {w : World} {K : PySem.W.Frag} {tg : Expr} (it : Addr) (lo : Int) (n : Nat) : Turn P w K tg (Itr lo n) [it] it (fun i h => IsRangeIter h it (lo + (i : Nat) * 1) ((n : Int) - (i : Nat)) 1) where
  mem := by simp
  obj := fun i h st b hb => by
    have e : b = it := by simpa using hb
    subst e
    exact ⟨_, st, fun v z => by
      have z' : Data.fields _ = Data.cell v := z
      cases z'⟩
  keep := fun i h h' st k => k it (by simp) _ st
  item := by
    intro X hP hw hK hc i pins s σ H E I hf st hg
    subst hP hw hK
    obtain ⟨f0, f1, f2, f3, f4, f5⟩ := hf it (by simp)
    have W := Walks.range (prog := X.prog) (w := X.w) (I.ok.hd hc) it lo 1 n
    refine W.item i s _ _ hg st fun v h' tk hv st' kk => ?_
    obtain ⟨t, rfl⟩ := hv
    have I1 : Inv X pins σ H { s with heap := h', toks := tk } := I.turned (fun b o hb e => kk b o (by simpa using hb) e) f0 f1 f3 f4 f5
    refine ⟨_, rfl, go_of (s := { s with heap := h', toks := tk }) (n := "range_iterator") st' rfl rfl (by decide) ⟨.int (lo + i), H, I1, ⟨t, ?_⟩, ⟨rfl, rfl⟩, st', fun b hb => (hf b hb).1⟩⟩
    rw [Int.mul_one]
  done := by
    intro X hP hw hK hc i pins s σ H E I hf st hg
    subst hP hw hK
    obtain ⟨f0, f1, f2, f3, f4, f5⟩ := hf it (by simp)
    exact wpAny_pyNext_range_end (I.ok.hd hc) st (by have : n ≤ i := hg; omega) fun h' eb => ⟨rfl, I.turned (t' := s.toks) (fun b o hb e => eb b o hb e) f0 f1 f3 f4 f5⟩
  self := fun _ _ _ _ _ st h => wpAny_pyIter_rangeiter st h
end L2

namespace L2
open PySem PySem.Spec PyProof.Rows
section
variable {X : Cx} {tg : Expr}
def iList (K : PySem.W.Frag) (tl : TE) : TI := fun σ H R => tl σ H fun x H1 => ∃ a, x = .ref a ∧ (∃ xs, SqL K H1 a xs) ∧ R (Itl K a) H1
theorem pi_list {l : Expr} {tl : TE} (hl : PE X l tl) : PI X tg l (iList X.K tl) := by
  intro pins s σ H R I h
  refine thn (hl pins s σ H _ I h) fun v s1 ⟨x, H1, I1, r1, q1⟩ => ?_
  obtain ⟨a, e, ⟨xs, hq⟩, q⟩ := q1
  subst e
  cases r1
  obtain ⟨its, rv, p, hz⟩ := I1.list hq
  refine wpAny_pyIter_list p.isList ?_
  refine ⟨s1.heap.objs.size, [s1.heap.objs.size], _, _, H1, rfl, I1.kept (t' := s1.toks) fun b o e => Heap.get?_push_of_some _ e, turn_list a _, ⟨_, Heap.get?_push_size _ rfl, rfl, rfl⟩, fun b hb => ?_, q⟩
  have e : b = s1.heap.objs.size := by simpa using hb
  subst e
  exact I1.fpOk (Nat.le_refl _) (I1.hok.fresh (Nat.le_refl _))
/-! ### for -/
/-- W: the invariant by the turn and a measure; N: what the body is to reach -/
def tFor (wi : TI) (g : TG) (tb : TS) : TS := fun D σ H => wi σ H fun J H1 => ∃ W : Nat → Nat → St → Hp → Prop, (∃ m, W 0 m σ H1) ∧ ∀ i m σ H, W i m σ H →
  (J.stop i H ∧ D.nx σ H) ∨ (J.go i H ∧ ∃ N : St → Hp → Prop, (∀ σ' H', N σ' H' → ∃ m', m' < m ∧ W (i + 1) m' σ' H') ∧ ∀ x H', J.yld i H x H' → g x σ H' fun σ2 H2 => tb { D with nx := N, ct := N, bk := D.nx } σ2 H2)
/-- the records at fp as they stand -/
def pinsAt (fp : List Addr) (h : Heap) : List (Addr × Obj) := fp.filterMap fun b => (h.get? b).map fun o => (b, o)
theorem mem_pinsAt {fp : List Addr} {h : Heap} {b : Addr} {o : Obj} (hb : b ∈ fp) (e : h.get? b = some o) : (b, o) ∈ pinsAt fp h := List.mem_filterMap.mpr ⟨b, hb, by rw [e]; rfl⟩
theorem of_pinsAt {fp : List Addr} {h : Heap} {p : Addr × Obj} (hp : p ∈ pinsAt fp h) : p.1 ∈ fp ∧ h.get? p.1 = some p.2 := by
  obtain ⟨b, hb, e⟩ := List.mem_filterMap.mp hp
  cases q : h.get? b with
  | none => rw [q] at e; cases e
  | some o =>
    rw [q] at e
    have e' : (b, o) = p := Option.some.inj e
    subst e'
    exact ⟨hb, q⟩
theorem Inv.pinned {pins : List (Addr × Obj)} {σ : St} {H : Hp} {s : Shared} {fp : List Addr} (I : Inv X pins σ H s) (hf : ∀ b ∈ fp, FpOk X pins H b) (ho : ∀ b ∈ fp, ∃ o, s.heap.get? b = some o ∧ ∀ v, o.data ≠ .cell v) : Inv X (pins ++ pinsAt fp s.heap) σ H s :=
  I.pins_of fun p hp => (List.mem_append.mp hp).elim (fun z => I.pin p (List.mem_append_right _ z)) fun z => by
    obtain ⟨hb, e⟩ := of_pinsAt z
    obtain ⟨f0, f1, f2, _⟩ := hf p.1 hb
    obtain ⟨o, e', d⟩ := ho p.1 hb
    rw [e] at e'; cases e'
    exact ⟨e, f0, f1, f2, d⟩
theorem Inv.unpinned {pins pl : List (Addr × Obj)} {σ : St} {H : Hp} {s : Shared} (I : Inv X (pins ++ pl) σ H s) : Inv X pins σ H s := I.pins_of fun p hp => I.pin p (List.mem_append_right _ (List.mem_append_left _ hp))
theorem ps_for {iter : Expr} {body : List Stmt} {wi : TI} {g : TG} {tb : TS} {pos : Pos} (hp : PassesOwn (model X.prog X.w) X.A X.env X.xe) (hc : X.calm = true) (hi : PI X tg iter wi) (hg : PG X tg g) (hb : PSs X body tb)
    (hs : ∀ x, foldedSetIterable iter X.env x = pure x := by intro _; rfl) : PS X (.For tg iter body [] pos) (tFor wi g tb) := by
  intro pins s σ H D I h
  refine wpAny_For (thn (hi pins s σ H _ I h) fun v s1 h1 => thn h1 fun itv s2 h2 => ?_) hs
  obtain ⟨it, fp, tn, J, H2, e, I2, T, st2, f2, W, ⟨m0, w0⟩, turn⟩ := h2
  subst e
  -- what stays true of the iterator's objects through the loop
  have stat : ∀ {H' : Hp}, (∀ b ∈ fp, H' b = none) → ∀ b ∈ fp, FpOk X pins H' b := fun hn b hb => ⟨hn b hb, (f2 b hb).2⟩
  refine codeAny_forLoop_any (fun n s' => ∃ i σ' H', Inv X pins σ' H' s' ∧ tn i s'.heap ∧ (∀ b ∈ fp, H' b = none) ∧ W i n σ' H') ?_ m0 ⟨0, σ, H2, I2, st2, fun b hb => (f2 b hb).1, w0⟩
  rintro n s3 ⟨i, σ3, H3, I3, st3, fr3, w3⟩
  rcases turn i n σ3 H3 w3 with ⟨stop, qn⟩ | ⟨go, N, hN, step⟩
  · refine wpAny_passesOwn hp (thn (T.done X rfl rfl rfl hc i pins s3 σ3 H3 X.xe I3 (stat fr3) st3 stop) fun r s4 ⟨hr, I4⟩ => ?_)
    subst hr
    exact wpAny_execs_nil ⟨σ3, H3, I4, qn⟩
  · refine wpAny_passesOwn hp (thn (T.item X rfl rfl rfl hc i pins s3 σ3 H3 X.xe I3 (stat fr3) st3 go) fun r s4 ⟨u, hr, h4⟩ => ?_)
    subst hr
    refine wpAny_passesOwn hp (thn h4 fun _ s5 ⟨x, H5, I5, r5, y5, st5, fr5⟩ => ?_)
    have I5' := I5.pinned (stat fr5) (T.obj _ _ st5)
    refine wpAny_passesOwn hp (thn (hg _ s5 σ3 H5 x u _ I5' r5 (step x H5 y5)) fun _ s6 ⟨σ6, H6, I6, q6⟩ => ?_)
    refine wpAny_passesOwn hp (thn (hb _ s6 σ6 H6 _ I6 q6) fun f s7 q7 => ?_)
    have again : ∀ {σ7 : St} {H7 : Hp}, Inv X (pins ++ pinsAt fp s5.heap) σ7 H7 s7 → N σ7 H7 → ∃ m, m < n ∧ ∃ i σ' H', Inv X pins σ' H' s7 ∧ tn i s7.heap ∧ (∀ b ∈ fp, H' b = none) ∧ W i m σ' H' := fun {σ7 H7} I7 n7 => by
      obtain ⟨m', hm, w7⟩ := hN σ7 H7 n7
      refine ⟨m', hm, i + 1, σ7, H7, I7.unpinned, T.keep _ _ _ st5 fun b hb o e => (I7.pin (b, o) (List.mem_append_right _ (List.mem_append_right _ (mem_pinsAt hb e)))).1, fun b hb => ?_, w7⟩
      obtain ⟨o, e, d⟩ := T.obj _ _ st5 b hb
      exact (I7.pin (b, o) (List.mem_append_right _ (List.mem_append_right _ (mem_pinsAt hb e)))).2.1
    cases f with
    | next => obtain ⟨σ7, H7, I7, n7⟩ := q7; exact again I7 n7
    | cont => obtain ⟨σ7, H7, I7, n7⟩ := q7; exact again I7 n7
    | brk => obtain ⟨σ7, H7, I7, q7⟩ := q7; exact ⟨σ7, H7, I7.unpinned, q7⟩
    | ret v => obtain ⟨x7, σ7, H7, I7, r7, q7⟩ := q7; exact ⟨x7, σ7, H7, I7.unpinned, r7, q7⟩
end

/-! ### the forms one uses -/
/-- over a list that the body leaves as it is -/
theorem for_list {K : PySem.W.Frag} {a : Addr} {xs : List V} {g : TG} {tb : TS} {D : Ends} {σ : St} {H : Hp} (Pv : Nat → St → Hp → Prop) (h0 : Pv 0 σ H) (hl : ∀ i σ H, i ≤ xs.length → Pv i σ H → SqL K H a xs)
    (hs : ∀ i x σ H, xs[i]? = some x → Pv i σ H → g x σ H fun σ2 H2 => tb { D with nx := Pv (i + 1), ct := Pv (i + 1), bk := D.nx } σ2 H2) (hd : ∀ σ H, Pv xs.length σ H → D.nx σ H) :
    ∃ W : Nat → Nat → St → Hp → Prop, (∃ m, W 0 m σ H) ∧ ∀ i m σ H, W i m σ H →
      ((Itl K a).stop i H ∧ D.nx σ H) ∨ ((Itl K a).go i H ∧ ∃ N : St → Hp → Prop, (∀ σ' H', N σ' H' → ∃ m', m' < m ∧ W (i + 1) m' σ' H') ∧ ∀ x H', (Itl K a).yld i H x H' → g x σ H' fun σ2 H2 => tb { D with nx := N, ct := N, bk := D.nx } σ2 H2) := by
  refine ⟨fun i m σ H => m = xs.length - i ∧ i ≤ xs.length ∧ Pv i σ H, ⟨xs.length, by simp, Nat.zero_le _, h0⟩, ?_⟩
  rintro i m σ H ⟨rfl, hi, p⟩
  have q := hl i σ H hi p
  by_cases hlt : i < xs.length
  · refine .inr ⟨⟨xs, xs[i], q, by simp [hlt]⟩, Pv (i + 1), fun σ' H' p' => ⟨xs.length - (i + 1), by omega, rfl, hlt, p'⟩, fun x H' y => ?_⟩
    obtain ⟨e, y⟩ := y
    subst e
    exact hs i x σ _ (y xs q) p
  · have e : i = xs.length := by omega
    subst e
    exact .inl ⟨⟨xs, q, Nat.le_refl _⟩, hd σ H p⟩
theorem for_range {lo : Int} {n : Nat} {g : TG} {tb : TS} {D : Ends} {σ : St} {H : Hp} (Pv : Nat → St → Hp → Prop) (h0 : Pv 0 σ H)
    (hs : ∀ i σ H, i < n → Pv i σ H → g (.int (lo + i)) σ H fun σ2 H2 => tb { D with nx := Pv (i + 1), ct := Pv (i + 1), bk := D.nx } σ2 H2) (hd : ∀ σ H, Pv n σ H → D.nx σ H) :
    ∃ W : Nat → Nat → St → Hp → Prop, (∃ m, W 0 m σ H) ∧ ∀ i m σ H, W i m σ H →
      ((Itr lo n).stop i H ∧ D.nx σ H) ∨ ((Itr lo n).go i H ∧ ∃ N : St → Hp → Prop, (∀ σ' H', N σ' H' → ∃ m', m' < m ∧ W (i + 1) m' σ' H') ∧ ∀ x H', (Itr lo n).yld i H x H' → g x σ H' fun σ2 H2 => tb { D with nx := N, ct := N, bk := D.nx } σ2 H2) := by
  refine ⟨fun i m σ H => m = n - i ∧ i ≤ n ∧ Pv i σ H, ⟨n, by simp, Nat.zero_le _, h0⟩, ?_⟩
  rintro i m σ H ⟨rfl, hi, p⟩
  by_cases hlt : i < n
  · refine .inr ⟨hlt, Pv (i + 1), fun σ' H' p' => ⟨n - (i + 1), by omega, rfl, hlt, p'⟩, fun x H' y => ?_⟩
    obtain ⟨e, y⟩ := y
    subst e y
    exact hs i σ _ hlt p
  · have e : i = n := by omega
    subst e
    exact .inl ⟨Nat.le_refl _, hd σ H p⟩
/-- while, by a word and a measure of the state -/
theorem while_by {c : TT} {tb : TS} {D : Ends} {σ : St} {H : Hp} (Pv : St → Hp → Prop) (μ : St → Hp → Nat) (h0 : Pv σ H)
    (hs : ∀ σ H, Pv σ H → c σ H fun b H1 => if b = true then tb { D with nx := fun σ' H' => Pv σ' H' ∧ μ σ' H' < μ σ H, ct := fun σ' H' => Pv σ' H' ∧ μ σ' H' < μ σ H, bk := D.nx } σ H1 else D.nx σ H1)
    (mono : ∀ σ H Q Q', (∀ b H1, Q b H1 → Q' b H1) → c σ H Q → c σ H Q') : tWhile c tb D σ H := by
  refine ⟨fun m σ H => m = μ σ H ∧ Pv σ H, ⟨_, rfl, h0⟩, ?_⟩
  rintro m σ H ⟨rfl, p⟩
  refine mono σ H _ _ (fun b H1 q => ?_) (hs σ H p)
  cases b with
  | true => exact ⟨_, fun σ' H' ⟨p', l⟩ => ⟨_, l, rfl, p'⟩, q⟩
  | false => exact q
end L2

namespace L2
open PySem PySem.Spec PyProof.Rows

abbrev R2 := V → V → Hp → VK → Prop
/-- a two-place operation on values: f is binaryOp op, inplaceOp op or compareOp op -/
def OpR (X : Cx) (f : Value → Value → Sem Value) (r : R2) : Prop :=
  ∀ (pins : List (Addr × Obj)) (s : Shared) (σ : St) (H : Hp) (x y : V) (v u : Value) (Q : VK), Inv X pins σ H s → RelV x v → RelV y u → r x y H Q →
    wpAny (model X.prog X.w) X.A (f v u) (EP X pins σ Q) X.xe s
/-- a call of a value that is known (a builtin, a type) with values -/
def CallR (X : Cx) (f : Value) (r : List V → Hp → VK → Prop) : Prop :=
  ∀ (pins : List (Addr × Obj)) (s : Shared) (σ : St) (H : Hp) (xs : List V) (us : List Value) (Q : VK), Inv X pins σ H s → Vals xs us → r xs H Q →
    wpAny (model X.prog X.w) X.A (call f us) (EP X pins σ Q) X.xe s
def tOp (r : R2) (ta tb : TE) : TE := fun σ H Q => ta σ H fun x H1 => tb σ H1 fun y H2 => r x y H2 Q
/-- ints in, under C, and a value out -/
def rI (C : Int → Int → Prop) (g : Int → Int → V) : R2 := fun x y H Q => ∃ i j, x = .int i ∧ y = .int j ∧ C i j ∧ Q (g i j) H
def rI0 (g : Int → Int → V) : R2 := fun x y H Q => ∃ i j, x = .int i ∧ y = .int j ∧ Q (g i j) H
section
variable {X : Cx} {a b c : Expr} {ta tb tc : TE} {pos : Pos}

theorem binT (ha : PE X a ta) (hb : PE X b tb) {pins : List (Addr × Obj)} {s : Shared} {σ : St} {H : Hp} {R : V → V → Hp → Prop} (I : Inv X pins σ H s)
    (h : ta σ H fun x H1 => tb σ H1 fun y H2 => R x y H2) {Q : Value → Shared → Prop} {f : Value → Value → Sem Value}
    (hf : ∀ v u s2 x y H2, Inv X pins σ H2 s2 → RelV x v → RelV y u → R x y H2 → wpAny (model X.prog X.w) X.A (f v u) Q X.xe s2) :
    wpAny (model X.prog X.w) X.A (eval a X.env) (fun v s₁ => wpAny (model X.prog X.w) X.A (eval b X.env) (fun u s₂ => wpAny (model X.prog X.w) X.A (f v u) Q X.xe s₂) X.xe s₁) X.xe s := by
  refine thn (ha pins s σ H _ I h) fun v s1 ⟨x, H1, I1, r1, q1⟩ => ?_
  refine thn (hb pins s1 σ H1 _ I1 q1) fun u s2 ⟨y, H2, I2, r2, q2⟩ => ?_
  exact hf v u s2 x y H2 I2 r1 r2 q2

theorem pe_op {op : Operator} {r : R2} (ho : OpR X (binaryOp op) r) (ha : PE X a ta) (hb : PE X b tb) : PE X (.BinOp a op b pos) (tOp r ta tb) := by
  intro pins s σ H Q I h
  exact wpAny_BinOp (binT ha hb I h fun v u s2 x y H2 I2 rx ry q => ho pins s2 σ H2 x y v u Q I2 rx ry q)
/-! ### ints -/
theorem opI {f : Value → Value → Sem Value} {C : Int → Int → Prop} {g : Int → Int → Int}
    (rule : ∀ (i j : Int) (t u : Tok) (s : Shared) (Q : Value → Shared → Prop) (E : Value → Shared → Prop), C i j → Q (.int (g i j) s.toks) { s with toks := s.toks + 1 } → wpAny (model X.prog X.w) X.A (f (.int i t) (.int j u)) Q E s) :
    OpR X f (rI C fun i j => .int (g i j)) := by
  intro pins s σ H x y v u Q I rx ry h
  obtain ⟨i, j, rfl, rfl, hc, q⟩ := h
  obtain ⟨t, rfl⟩ := rx
  obtain ⟨t', rfl⟩ := ry
  exact rule i j t t' s _ _ hc ⟨.int (g i j), H, I.tok _, ⟨_, rfl⟩, q⟩
theorem opI0 {f : Value → Value → Sem Value} {g : Int → Int → Int}
    (rule : ∀ (i j : Int) (t u : Tok) (s : Shared) (Q : Value → Shared → Prop) (E : Value → Shared → Prop), Q (.int (g i j) s.toks) { s with toks := s.toks + 1 } → wpAny (model X.prog X.w) X.A (f (.int i t) (.int j u)) Q E s) :
    OpR X f (rI0 fun i j => .int (g i j)) := by
  intro pins s σ H x y v u Q I rx ry h
  obtain ⟨i, j, rfl, rfl, q⟩ := h
  obtain ⟨t, rfl⟩ := rx
  obtain ⟨t', rfl⟩ := ry
  exact rule i j t t' s _ _ ⟨.int (g i j), H, I.tok _, ⟨_, rfl⟩, q⟩
theorem opB0 {f : Value → Value → Sem Value} {g : Int → Int → Bool}
    (rule : ∀ (i j : Int) (t u : Tok) (s : Shared) (Q : Value → Shared → Prop) (E : Value → Shared → Prop), Q (.bool (g i j)) s → wpAny (model X.prog X.w) X.A (f (.int i t) (.int j u)) Q E s) :
    OpR X f (rI0 fun i j => .bl (g i j)) := by
  intro pins s σ H x y v u Q I rx ry h
  obtain ⟨i, j, rfl, rfl, q⟩ := h
  obtain ⟨t, rfl⟩ := rx
  obtain ⟨t', rfl⟩ := ry
  exact rule i j t t' s _ _ ⟨.bl (g i j), H, I, rfl, q⟩

def CMul (i j : Int) : Prop := (-(2 ^ 64) < i ∧ i < 2 ^ 64) ∨ (-(2 ^ 64) < j ∧ j < 2 ^ 64)
theorem CMul.ok {i j : Int} (h : CMul i j) : IntMulOk i j := by
  rcases h with ⟨h1, h2⟩ | ⟨h1, h2⟩
  · exact .of_left (intBits_le_64 h1 h2)
  · exact .of_right (intBits_le_64 h1 h2)
theorem op_add : OpR X (binaryOp .Add) (rI0 fun i j => .int (i + j)) := opI0 fun _ _ _ _ _ _ _ q => add_int q
theorem op_mul : OpR X (binaryOp .Mult) (rI CMul fun i j => .int (i * j)) := opI fun _ _ _ _ _ _ _ hc q => mul_int q hc.ok
/-- % by a positive divisor of any size -/
theorem op_mod : OpR X (binaryOp .Mod) (rI (fun _ j => 0 < j) fun i j => .int (i % j)) := opI fun i j _ _ _ _ _ hc q => by
  have h1 : (0 : Int) < j := hc
  exact mod_int' (by omega) (by rw [Int.fmod_eq_emod_of_nonneg i (by omega)]; exact q)
/-! ### bools among ints: n += (a < b) -/
end

/-! ### comparisons -/
/-- the scalars that == tells apart as data does -/
def scal : V → V → Bool
  | .non, .non => true | .non, .int _ => true | .int _, .non => true | .non, .bl _ => true | .bl _, .non => true | .non, .str _ => true | .str _, .non => true
  | .int _, .int _ => true | .bl _, .bl _ => true | .str _, .str _ => true | .byt _, .byt _ => true
  | .int _, .str _ => true | .str _, .int _ => true | .bl _, .str _ => true | .str _, .bl _ => true
  | _, _ => false
def rEq : R2 := fun x y H Q => scal x y = true ∧ Q (.bl (decide (x = y))) H
def rNe : R2 := fun x y H Q => scal x y = true ∧ Q (.bl (!decide (x = y))) H

theorem dec_int {i j : Int} : decide (V.int i = V.int j) = (i == j) := by
  rw [Bool.eq_iff_iff]
  simp
theorem dec_bl {i j : Bool} : decide (V.bl i = V.bl j) = (i == j) := by
  rw [Bool.eq_iff_iff]
  simp
theorem dec_str {i j : Str} : decide (V.str i = V.str j) = (i == j) := by
  rw [Bool.eq_iff_iff]
  simp
theorem dec_byt {i j : Array UInt8} : decide (V.byt i = V.byt j) = (i.toList == j.toList) := by
  rw [Bool.eq_iff_iff]
  cases i
  cases j
  simp

section
variable {X : Cx} {a b c : Expr} {ta tb tc : TE} {pos : Pos}
theorem fin_bl {pins : List (Addr × Obj)} {σ : St} {H : Hp} {s : Shared} {Q : VK} {k k' : Bool} (I : Inv X pins σ H s) (q : Q (.bl k) H) (e : k = k') : EP X pins σ Q (.bool k') s := by
  subst e
  exact ⟨.bl k, H, I, rfl, q⟩
theorem op_eq : OpR X (compareOp .Eq) rEq := by
  intro pins s σ H x y v u Q I rx ry h
  obtain ⟨hs, q⟩ := h
  cases x with
  | non =>
    cases rx
    cases y with
    | non => cases ry; exact PySem.EqNone.eq_none_none (fin_bl I q (by simp))
    | bl j => cases ry; exact PySem.EqNone.eq_none_bool (fin_bl I q (by simp))
    | int j => obtain ⟨t', rfl⟩ := ry; exact PySem.EqNone.eq_none_int (fin_bl I q (by simp))
    | str j => obtain ⟨t', rfl⟩ := ry; exact PySem.EqNone.eq_none_str (fin_bl I q (by simp))
    | _ => exact absurd (show false = true from hs) Bool.false_ne_true
  | bl i =>
    cases rx
    cases y with
    | non => cases ry; exact PySem.EqNone.eq_bool_none (fin_bl I q (by simp))
    | bl j => cases ry; exact eq_bool (fin_bl I q dec_bl)
    | str j => obtain ⟨t', rfl⟩ := ry; exact PySem.EqMixed.eq_bool_str (fin_bl I q (by simp))
    | _ => exact absurd (show false = true from hs) Bool.false_ne_true
  | int i =>
    obtain ⟨t, rfl⟩ := rx
    cases y with
    | non => cases ry; exact PySem.EqNone.eq_int_none (fin_bl I q (by simp))
    | int j => obtain ⟨t', rfl⟩ := ry; exact eq_int (fin_bl I q dec_int)
    | str j => obtain ⟨t', rfl⟩ := ry; exact PySem.EqMixed.eq_int_str (fin_bl I q (by simp))
    | _ => exact absurd (show false = true from hs) Bool.false_ne_true
  | str i =>
    obtain ⟨t, rfl⟩ := rx
    cases y with
    | non => cases ry; exact PySem.EqNone.eq_str_none (fin_bl I q (by simp))
    | bl j => cases ry; exact PySem.EqMixed.eq_str_bool (fin_bl I q (by simp))
    | int j => obtain ⟨t', rfl⟩ := ry; exact PySem.EqMixed.eq_str_int (fin_bl I q (by simp))
    | str j => obtain ⟨t', rfl⟩ := ry; exact eq_str (fin_bl I q dec_str)
    | _ => exact absurd (show false = true from hs) Bool.false_ne_true
  | byt i =>
    obtain ⟨t, rfl⟩ := rx
    cases y with
    | byt j => obtain ⟨t', rfl⟩ := ry; exact PySem.W.eq_bytes (fin_bl I q dec_byt)
    | _ => exact absurd (show false = true from hs) Bool.false_ne_true
  | _ => cases y <;> exact absurd (show false = true from hs) Bool.false_ne_true
theorem op_ne : OpR X (compareOp .NotEq) rNe := by
  intro pins s σ H x y v u Q I rx ry h
  obtain ⟨hs, q⟩ := h
  cases x with
  | non =>
    cases rx
    cases y with
    | non => cases ry; exact PySem.EqNone.ne_none_none (fin_bl I q (by simp))
    | bl j => cases ry; exact PySem.EqNone.ne_none_bool (fin_bl I q (by simp))
    | int j => obtain ⟨t', rfl⟩ := ry; exact PySem.EqNone.ne_none_int (fin_bl I q (by simp))
    | str j => obtain ⟨t', rfl⟩ := ry; exact PySem.EqNone.ne_none_str (fin_bl I q (by simp))
    | _ => exact absurd (show false = true from hs) Bool.false_ne_true
  | bl i =>
    cases rx
    cases y with
    | non => cases ry; exact PySem.EqNone.ne_bool_none (fin_bl I q (by simp))
    | bl j => cases ry; exact ne_bool (fin_bl I q (congrArg not dec_bl))
    | str j => obtain ⟨t', rfl⟩ := ry; exact PySem.EqMixed.ne_bool_str (fin_bl I q (by simp))
    | _ => exact absurd (show false = true from hs) Bool.false_ne_true
  | int i =>
    obtain ⟨t, rfl⟩ := rx
    cases y with
    | non => cases ry; exact PySem.EqNone.ne_int_none (fin_bl I q (by simp))
    | int j => obtain ⟨t', rfl⟩ := ry; exact ne_int (fin_bl I q (congrArg not dec_int))
    | str j => obtain ⟨t', rfl⟩ := ry; exact PySem.EqMixed.ne_int_str (fin_bl I q (by simp))
    | _ => exact absurd (show false = true from hs) Bool.false_ne_true
  | str i =>
    obtain ⟨t, rfl⟩ := rx
    cases y with
    | non => cases ry; exact PySem.EqNone.ne_str_none (fin_bl I q (by simp))
    | bl j => cases ry; exact PySem.EqMixed.ne_str_bool (fin_bl I q (by simp))
    | int j => obtain ⟨t', rfl⟩ := ry; exact PySem.EqMixed.ne_str_int (fin_bl I q (by simp))
    | str j => obtain ⟨t', rfl⟩ := ry; exact ne_str (fin_bl I q (congrArg not dec_str))
    | _ => exact absurd (show false = true from hs) Bool.false_ne_true
  | byt i =>
    obtain ⟨t, rfl⟩ := rx
    cases y with
    | byt j => obtain ⟨t', rfl⟩ := ry; exact PySem.W.ne_bytes (fin_bl I q (congrArg not dec_byt))
    | _ => exact absurd (show false = true from hs) Bool.false_ne_true
  | _ => cases y <;> exact absurd (show false = true from hs) Bool.false_ne_true

theorem op_gt : OpR X (compareOp .Gt) (rI0 fun i j => .bl (decide (j < i))) := opB0 fun _ _ _ _ _ _ _ q => gt_int q
theorem nomark (b : Expr) {op : CmpOp} (h : op ≠ .In := by decide) (h2 : op ≠ .NotIn := by decide) : behindInMarks op b = false := by
  have e1 : (op == CmpOp.In) = false := by cases op <;> first | rfl | exact absurd rfl h
  have e2 : (op == CmpOp.NotIn) = false := by cases op <;> first | rfl | exact absurd rfl h2
  cases b <;> simp [behindInMarks, e1, e2]
/-- a reading of a value as a test -/
def tTest (t : TE) : TT := fun σ H Q => t σ H fun x H' => ∃ k, x = .bl k ∧ Q k H'
theorem pt_cmpR {op : CmpOp} {r : R2} (ho : OpR X (compareOp op) r) (ha : PE X a ta) (hb : PE X b tb) (hm : behindInMarks op b = false) : PT X (.Compare a [op] [b] pos) (tTest (tOp r ta tb)) := by
  intro pins s σ H Q I h
  refine wpAny_isTrue_Compare1 (thn (ha pins s σ H _ I h) fun v s1 ⟨x, H1, I1, r1, q1⟩ => thn (hb pins s1 σ H1 _ I1 q1) fun u s2 ⟨y, H2, I2, r2, q2⟩ =>
    thn (ho pins s2 σ H2 x y v u _ I2 r1 r2 q2) fun c s3 ⟨z, H3, I3, r3, k, e, q3⟩ => ?_) hm
  subst e
  cases r3
  exact wpAny_truthy_bool ⟨H3, I3, q3⟩
/-! ### truth -/
theorem line63 : (sizeLine : Nat) < 2 ^ 63 := by rw [sizeLine_eq]; decide
/-! ### strs and bytes -/
/-! ### scalar builtins, by CallR -/
theorem vals1 {x : V} {us : List Value} (r : Vals [x] us) : ∃ u, us = [u] ∧ RelV x u := by
  cases r with
  | cons r1 r2 => cases r2; exact ⟨_, rfl, r1⟩
end
end L2

namespace L2
open PySem PySem.Spec PyProof.Rows

/-! ### an instance, its attributes a map -/
theorem lookIn_ns {h : Heap} {dx : Addr} {mA : Str → Option Value} (n : h.Ns1 dx mA) : ∃ od, h.get? dx = some od ∧ ∀ name, PySem.W.lookIn name od = some (mA name) := by
  obtain ⟨o, es, ep, ho, hd, hk, _, hm⟩ := n
  refine ⟨o, ho, fun name => ?_⟩
  have e := hm name
  unfold nsFind findBy at e
  rw [← Array.find?_toList] at e
  unfold PySem.W.lookIn
  rw [hd]
  dsimp only
  split
  · rename_i y q
    rw [q] at e
    exact congrArg some e
  · rename_i q
    rw [q] at e
    have a : es.toList.any (·.refKey) = false := by
      rw [List.any_eq_false]
      intro y hy
      obtain ⟨z, t, hkey⟩ := hk y (Array.mem_toList_iff.mp hy)
      simp [DictEntry.refKey, hkey]
    have a' : ¬ es.toList.any (·.refKey) = true := by rw [a]; exact Bool.false_ne_true
    rw [if_neg a']
    exact congrArg some e

section
variable {prog : Program} {w : World} {A : Around} {E : Value → Shared → Prop} {s : Shared} {K : PySem.W.Frag} {x dx C f : Addr} {mA : Str → Option Value} {name : Str} {v : Value}

end

/-! ### the attributes as a list of pairs -/
theorem RelO.some_of {v : V} {o : Option Value} (r : RelO (some v) o) : ∃ u, o = some u ∧ RelV v u := by
  cases o with
  | none => exact (show False from r).elim
  | some u => exact ⟨u, rfl, r⟩
theorem handed_of {v : V} {u : Value} (r : RelV v u) : PySem.W.handedIn u = true := by
  cases v with
  | non => cases (show u = Value.none from r); rfl
  | bl b => cases (show u = Value.bool b from r); rfl
  | int i => obtain ⟨t, e⟩ := (show ∃ t, u = Value.int i t from r); cases e; rfl
  | str x => obtain ⟨t, e⟩ := (show ∃ t, u = Value.str x t from r); cases e; rfl
  | byt b => obtain ⟨t, e⟩ := (show ∃ t, u = Value.bytes b t from r); cases e; rfl
  | flt b => obtain ⟨t, e⟩ := (show ∃ t, u = Value.float b t from r); cases e; rfl
  | ref a => cases (show u = Value.ref a from r); rfl
  | ty n => cases (show u = Value.type n from r); rfl

section
variable {P : Program} {w : World} {H H' : Hp} {h h' : Heap} {a C dx : Addr} {fs fs' : List (Str × V)}
end

/-! ### what of the text a class must have -/
/-- no class of it has the name -/
def NoAttr (K : PySem.W.Frag) (C : Addr) (f : Str) : Prop := PySem.W.findIn K (.ref C) f = some none
/-- a method: a plain def of the class or of one above it -/
structure Meth (K : PySem.W.Frag) (C : Addr) (m : Str) (f : Addr) : Prop where
  at_ : PySem.W.findIn K (.ref C) m = some (some (.ref f))
  fn : PySem.W.isFn K (.ref f) = true
  kp : PySem.W.keepIn K (.ref f) = true

section
variable {X : Cx} {pins : List (Addr × Obj)} {σ : St} {H : Hp} {s : Shared} {a C dx : Addr} {fs : List (Str × V)} {f : Str} {v : V} {A : Around} {E : Value → Shared → Prop}

/-- e.f where nothing but the object is asked: through attributeBase (super) and the last hold -/
theorem attr_of {prog : Program} {w : World} {env : Env} {e : Expr} {f : Str} {pos : Pos} {s : Shared} {Q : Value → Shared → Prop} (hb : attributeBase e f env (eval e env) = eval e env)
    (h : wpAny (model prog w) A (eval e env) (fun o s₁ => wpAny (model prog w) A (getAttr o f true) Q E s₁) E s) : wpAny (model prog w) A (eval (.Attribute e f pos) env) Q E s :=
  Attribute_any_ h (by rw [arm_eval_Attribute, hb])
end

/-! ### readings and rules -/
section
variable {X : Cx} {o e value : Expr} {f : Str} {pos pos' tpos : Pos} {ta tv : TE}
end

/-! ### isinstance -/
section
variable {X : Cx} {pins : List (Addr × Obj)} {σ : St} {H : Hp} {s : Shared} {A : Around} {E : Value → Shared → Prop} {Q : Value → Shared → Prop} {c : Value} {b : Bool}
end
end L2

namespace L2
open PySem PySem.Spec PyProof.Rows

/-! ### room -/
structure Room (k : Nat) (A : Around) : Prop where
  hd : A.handled = none
  dp : A.depth + 3 * k + 5 < recursionLimit
  un : A.units + 16 * k + 200 < cLine
theorem Room.mono {j k : Nat} {A : Around} (r : Room k A) (h : j ≤ k) : Room j A := ⟨r.hd, by have := r.dp; omega, by have := r.un; omega⟩
theorem Room.deeper {k : Nat} {A : Around} (r : Room (k + 1) A) (env : Env) : Room k (A.deeper env) :=
  ⟨r.hd, by have := r.dp; show A.depth + 1 + 3 * k + 5 < _; omega, by have := r.un; show A.units + 3 + 16 * k + 200 < _; omega⟩
theorem Room.depth {k : Nat} {A : Around} (r : Room k A) : A.depth < recursionLimit := by have := r.dp; omega
theorem Room.units {k : Nat} {A : Around} (r : Room k A) : A.units + 64 < cLine := by have := r.un; omega
/-! ### argument lists and displays -/
def tNil : TA := fun _ H Q => Q [] H
def tCons (ta : TE) (tr : TA) : TA := fun σ H Q => ta σ H fun x H1 => tr σ H1 fun xs H2 => Q (x :: xs) H2
section
variable {X : Cx} {e : Expr} {es : List Expr} {te : TE} {t : TA} {pos : Pos}
theorem pa_nil : PA X [] tNil := fun _ _ _ _ H Q I h => Calls.spliced_nil ⟨[], H, I, .nil, h⟩
theorem pa_cons (ha : PE X e te) (hr : PA X es t) (hs : starEach (e :: es) X.env = (false, eval e X.env) :: starEach es X.env := by rfl) : PA X (e :: es) (tCons te t) := by
  intro pos pins s σ H Q I h
  rw [hs]
  show wpAny _ _ (spliced ((false, eval e X.env) :: backTo pos (starEach es X.env))) _ _ s
  refine Calls.spliced_cons (thn (ha pins s σ H _ I h) fun u s1 ⟨x, H1, I1, r1, q1⟩ => ?_)
  exact thn (hr pos pins s1 σ H1 _ I1 q1) fun us s2 ⟨xs, H2, I2, r2, q2⟩ => ⟨x :: xs, H2, I2, .cons r1 r2, q2⟩

/-- a tuple, a list of written items -/
def tTup (t : TA) : TE := fun σ H Q => t σ H fun xs H1 => xs.length ≤ sizeLine ∧ ∀ p, H1 p = none → Q (.ref p) (upd H1 p (.tup xs))
def tLst (t : TA) : TE := fun σ H Q => t σ H fun xs H1 => xs.length ≤ sizeLine ∧ ∀ p, H1 p = none → Q (.ref p) (upd H1 p (.lst xs))
theorem pe_tup {x1} (h : PA X es t) : PE X (.Tuple es x1 pos) (tTup t) := by
  intro pins s σ H Q I hq
  refine wpAny_Tuple_spliced (thn (h pos pins s σ H _ I hq) fun us s1 ⟨xs, H1, I1, r, z, q⟩ => ⟨by rw [← r.length]; exact z, ?_⟩)
  have hf : H1 s1.heap.objs.size = none := I1.hok.fresh (Nat.le_refl _)
  refine ⟨.ref s1.heap.objs.size, upd H1 s1.heap.objs.size (.tup xs), I1.laid (t' := s1.toks) (fun b u e => Heap.get?_push_of_some _ e) (Nat.le_refl _) ?_, rfl, q _ hf⟩
  exact ⟨z, us, r, ⟨_, Heap.get?_push_size _ rfl, rfl, _, rfl⟩⟩
theorem pe_lst (h : PA X es t) : PE X (.List es pos) (tLst t) := by
  intro pins s σ H Q I hq
  refine wpAny_List_spliced (thn (h pos pins s σ H _ I hq) fun us s1 ⟨xs, H1, I1, r, z, q⟩ => ⟨by rw [← r.length]; exact z, ?_⟩)
  have hf : H1 s1.heap.objs.size = none := I1.hok.fresh (Nat.le_refl _)
  refine ⟨.ref s1.heap.objs.size, upd H1 s1.heap.objs.size (.lst xs), I1.laid (t' := s1.toks) (fun b u e => Heap.get?_push_of_some _ e) (Nat.le_refl _) ?_, rfl, q _ hf⟩
  exact ⟨z, us, 0, r, Heap.get?_push_size _ rfl⟩
end

/-! ### what a def promises -/
/-- a def's promise: the bound arguments in the parameters' order, the heap, the wanted end, the wanted exception -/
abbrev Sp := List V → Hp → VK → XK → Prop
/-- how an exception lies behind a call (file 08 gives it): the callers' frames, abstract heap and state ahead of the call, the wish, the exception, the state -/
abbrev CXT := List Env → Hp → Shared → XK → Value → Shared → Prop

/-- the state at a call -/
structure Env0 (P : Program) (w : World) (K : PySem.W.Frag) (mg : Str → Option Value) (base : Heap) (A : Around) (outer : List Env) (s : Shared) (H : Hp) : Prop where
  frames : A.frames = some outer
  mod : Mod K mg base
  bs : ∀ b o, base.get? b = some o → s.heap.get? b = some o ∧ H b = none
  bsz : base.objs.size ≤ s.heap.objs.size
  funs : s.heap.FunFrames base outer
  frf : ∀ b ∈ frs outer, H b = none
  hok : HOk P w H s.heap
  bare : AllBare s.gens
/-- a call's end -/
def CE (outer : List Env) (P : Program) (w : World) (H : Hp) (s : Shared) (Q : VK) (u : Value) (s' : Shared) : Prop :=
  ∃ v H', s'.os = s.os ∧ AllBare s'.gens ∧ Un (frs outer) [] H H' s.heap s'.heap ∧ HOk P w H' s'.heap ∧ RelV v u ∧ Q v H'
def CR (CX : CXT) (outer : List Env) (P : Program) (w : World) (H : Hp) (s : Shared) (Q : VK) (E : XK) (r : Result) (s' : Shared) : Prop :=
  match r with
  | .ok (.ret u) => CE outer P w H s Q u s'
  | .ok _ => False
  | .error e => CX outer H s E e s'
structure FnOk (P : Program) (w : World) (K : PySem.W.Frag) (mg : Str → Option Value) (base : Heap) (CX : CXT) (k : Nat) (f : Addr) (fd : FuncData) (ps : List Str) (sp : Sp) : Prop where
  len : ∀ vs H Q E, sp vs H Q E → vs.length = ps.length
  run : ∀ (A : Around) (outer : List Env) (s : Shared) (H : Hp) (args : Args) (us : List Value) (vs : List V) (Q : VK) (E : XK), Room k A → Env0 P w K mg base A outer s H → BindsTo s fd args (ps.zip us) → Vals vs us → sp vs H Q E →
    codeAny (model P w) A (.call (.ref f) args) (CR CX outer P w H s Q E) s
section
variable {X : Cx} {pins : List (Addr × Obj)} {σ : St} {H : Hp} {s s' : Shared}
/-- from a body: what a callee wants -/
theorem Inv.env0 (I : Inv X pins σ H s) : Env0 X.prog X.w X.K X.mg X.base X.A X.stack s H :=
  ⟨I.ok.frames, I.ok.mod, I.bs, Nat.le_trans I.ok.bsz I.sz, I.stack, I.stkFree, I.hok, I.bare⟩
/-- behind a call -/
theorem Inv.after {Q : VK} {u : Value} (I : Inv X pins σ H s) (h : CE X.stack X.prog X.w H s Q u s') : EP X pins σ Q u s' := by
  obtain ⟨v, H', os, bare, un, hok, r, q⟩ := h
  obtain ⟨hh, g, d, t, os'⟩ := s'
  obtain rfl : os' = s.os := os
  exact ⟨v, H', I.call (h' := hh) (g' := g) (d' := d) (t' := t) (ch := []) un hok bare (fun b z => absurd z (by simp)), r, q⟩
end

/-! ### calls -/
/-- f(..): the written arguments, then the defaults dvs; E: what is wanted of an exception -/
def tCall (sp : Sp) (dvs : List V) (E : XK) (t : TA) : TE := fun σ H Q => t σ H fun vs H1 => sp (vs ++ dvs) H1 Q E
/-- how the parameters are bound: us the positional arguments, kw the keywords' values by name, ds the defaults that fill up -/
def Binds (K : PySem.W.Frag) (fd : FuncData) (ps : List Str) (ds : List Value) : Prop :=
  ∀ (s : Shared) (us : List Value), K.In s.heap → (us ++ ds).length = ps.length → BindsTo s fd ⟨us, []⟩ (ps.zip (us ++ ds))
/-- every parameter is given -/
theorem Binds.all {K : PySem.W.Frag} {fd : FuncData} {ps : List Str} (h : ∀ us : List Value, us.length = ps.length → bindArgs fd ⟨us, []⟩ = pure (ps.zip us)) : Binds K fd ps [] := fun s us _ hl => by
  rw [List.append_nil] at hl ⊢
  exact .of_eq (h us hl)

/-- an exception of a callee reaches what this body wants of exceptions -/
def Passes (CX : CXT) (X : Cx) (E : XK) : Prop := ∀ (pins : List (Addr × Obj)) (σ : St) (H : Hp) (s : Shared) (e : Value) (s' : Shared), Inv X pins σ H s → CX X.stack H s E e s' → X.xe e s'

section
variable {X : Cx} {CX : CXT} {k : Nat} {f C : Addr} {fd : FuncData} {ps : List Str} {sp : Sp} {dvs : List V} {ds : List Value} {E : XK} {x m : Str} {p pos apos : Pos} {e o : Expr} {es : List Expr} {ta : TE} {t : TA}

/-- the callee runs -/
theorem run_fn {pins : List (Addr × Obj)} {σ : St} {H : Hp} {s : Shared} {Q : VK} {us : List Value} {vs : List V} (F : FnOk X.prog X.w X.K X.mg X.base CX k f fd ps sp) (hr : Room k X.A) (hb : Binds X.K fd ps ds) (hd : Vals dvs ds) (hx : Passes CX X E)
    (I : Inv X pins σ H s) (r : Vals vs us) (h : sp (vs ++ dvs) H Q E) : wpAny (model X.prog X.w) X.A (call (.ref f) us) (EP X pins σ Q) X.xe s := by
  have r2 : Vals (vs ++ dvs) (us ++ ds) := r.append hd
  have hl : (us ++ ds).length = ps.length := by rw [← r2.length]; exact F.len _ _ _ _ h
  refine wpAny_call (codeAny_mono (F.run X.A X.stack s H ⟨us, []⟩ (us ++ ds) (vs ++ dvs) Q E hr I.env0 (hb s us I.kIn hl) r2 h) fun r s' hq => ?_)
  cases r with
  | error e => exact hx pins σ H s e s' I hq
  | ok fl =>
    cases fl with
    | ret u => exact I.after hq
    | next => exact False.elim hq
    | brk => exact False.elim hq
    | cont => exact False.elim hq

theorem pe_call (F : FnOk X.prog X.w X.K X.mg X.base CX k f fd ps sp) (hr : Room k X.A) (hg : Gl X x) (hm : X.mg x = some (.ref f)) (hk : PySem.W.keepIn X.K (.ref f) = true) (hb : Binds X.K fd ps ds) (hd : Vals dvs ds) (hx : Passes CX X E)
    (ha : PA X (e :: es) t) (hdb : (x == ("__debug__" : Str)) = false := by decide) (he : starEach (e :: es) X.env = (false, eval e X.env) :: starEach es X.env := by rfl) (hpl : (backTo pos (starEach es X.env)).any (·.1) = false := by rfl) :
    PE X (.Call (.Name x p) (e :: es) [] pos) (tCall sp dvs E t) := by
  intro pins s σ H Q I h
  refine wpAny_Call_Name_kw (ld_glob I hg hm ?_ hdb)
  refine PySem.W.callWith_K (h₀ := X.base) I.ok.mod.kin hk (thn (ha pos pins s σ H _ I h) fun us s1 ⟨vs, H1, I1, r, q⟩ => ⟨I1.kIn, ?_⟩) he hpl
  exact run_fn F hr hb hd hx I1 r q
end

/-! ### keywords -/
section
variable {X : Cx} {CX : CXT} {k : Nat} {f C : Addr} {fd : FuncData} {ps ks : List Str} {sp : Sp} {E : XK} {x m : Str} {p pos apos kpos : Pos} {e o : Expr} {es : List Expr} {kws : List Keyword} {te ta : TE} {t tk : TA} {nm : Option Str}
variable {g : List Value → List Value → List Value} {gV : List V → List V → List V}
end

/-! ### a def's body keeps its promise -/
/-- names: the parameters first -/
structure FnScope (N P : List Str) (sc : Scope) : Prop where
  kind : sc.kind = .function
  co : sc.isCoroutine = false
  gen : sc.isGenerator = false
  nd : N.Nodup
  pre : N.take P.length = P
  par : ∀ x ∈ P, sc.names.lookup x = some .local ∨ sc.names.lookup x = some .cell
  nofree : ∀ y ∈ sc.names, y.2 ≠ .free

theorem bindL_out {kindOf : Str → Option NameKind} {x : Str} : ∀ {binds : List (Str × Value)} {m : Str → Option Value}, (∀ v, (x, v) ∉ binds) → bindL kindOf binds m x = m x
  | [], _, _ => rfl
  | (n, v) :: r, m, h => by
    unfold bindL
    rw [bindL_out fun w hw => h w (List.mem_cons_of_mem _ hw)]
    split
    · have : x ≠ n := by rintro rfl; exact h v List.mem_cons_self
      simp [this]
    · rfl
theorem bindC_out {kindOf : Str → Option NameKind} {x : Str} : ∀ {binds : List (Str × Value)} {m : Str → Option Value}, (∀ v, (x, v) ∉ binds) → bindC kindOf binds m x = m x
  | [], _, _ => rfl
  | (n, v) :: r, m, h => by
    unfold bindC
    rw [bindC_out fun w hw => h w (List.mem_cons_of_mem _ hw)]
    split
    · rfl
    · have : x ≠ n := by rintro rfl; exact h v List.mem_cons_self
      simp [this]
theorem bindL_get {kindOf : Str → Option NameKind} {x : Str} {v : Value} : ∀ {P : List Str} {vs : List Value} {i : Nat} {m : Str → Option Value}, P.Nodup → P[i]? = some x → vs[i]? = some v → kindOf x = some .local →
    bindL kindOf (P.zip vs) m x = some v
  | [], _, _, _, _, h, _, _ => by simp at h
  | _ :: _, [], _, _, _, _, h, _ => by simp at h
  | p :: P, w :: vs, 0, m, nd, h1, h2, hk => by
    simp at h1 h2; subst h1; subst h2
    show bindL kindOf ((p, w) :: P.zip vs) m p = _
    unfold bindL
    rw [bindL_out fun v hv => (List.nodup_cons.mp nd).1 (List.of_mem_zip hv).1, if_pos hk]
    simp
  | p :: P, w :: vs, i + 1, m, nd, h1, h2, hk => by
    show bindL kindOf ((p, w) :: P.zip vs) m x = _
    unfold bindL
    exact bindL_get (i := i) (List.nodup_cons.mp nd).2 (by simpa using h1) (by simpa using h2) hk
theorem bindC_get {kindOf : Str → Option NameKind} {x : Str} {v : Value} : ∀ {P : List Str} {vs : List Value} {i : Nat} {m : Str → Option Value}, P.Nodup → P[i]? = some x → vs[i]? = some v → kindOf x ≠ some .local →
    bindC kindOf (P.zip vs) m x = some v
  | [], _, _, _, _, h, _, _ => by simp at h
  | _ :: _, [], _, _, _, _, h, _ => by simp at h
  | p :: P, w :: vs, 0, m, nd, h1, h2, hk => by
    simp at h1 h2; subst h1; subst h2
    show bindC kindOf ((p, w) :: P.zip vs) m p = _
    unfold bindC
    rw [bindC_out fun v hv => (List.nodup_cons.mp nd).1 (List.of_mem_zip hv).1, if_neg hk]
    simp
  | p :: P, w :: vs, i + 1, m, nd, h1, h2, hk => by
    show bindC kindOf ((p, w) :: P.zip vs) m x = _
    unfold bindC
    exact bindC_get (i := i) (List.nodup_cons.mp nd).2 (by simpa using h1) (by simpa using h2) hk

/-- the names' values at the entry -/
def start (N : List Str) (vs : List V) : St := vs.map some ++ List.replicate (N.length - vs.length) none

/-- the context of a def's body, at its entry; an exception leaves the frame, then lies as CX says -/
def cxOf (CX : CXT) (P : Program) (w : World) (K : PySem.W.Frag) (mg : Str → Option Value) (base : Heap) (N : List Str) (qual : Str) (scope : Scope) (f : Addr) (cd : Value) (A : Around) (outer : List Env) (s : Shared) (H : Hp) (E : XK) : Cx where
  prog := P
  w := w
  K := K
  mg := mg
  base := base
  A := A.deeper (envOfC qual scope s.heap.objs.size f cd)
  N := N
  s_0 := s
  H_0 := H
  env := envOfC qual scope s.heap.objs.size f cd
  outer := outer
  stack := envOfC qual scope s.heap.objs.size f cd :: outer
  ex := []
  calm := true
  fn := fun _ => true
  pn := []
  xe := fun e s' => wpAny (model P w) (A.deeper (envOfC qual scope s.heap.objs.size f cd)) (leaving (envOfC qual scope s.heap.objs.size f cd) e) (fun _ s'' => CX outer H s E e s'') (fun e' s'' => CX outer H s E e' s'') s'

theorem cell_has {sc : Scope} {n : Nat} {x : Str} (h : sc.names.lookup x = some .cell) : ∃ c, (cellsFrom n sc.names []).lookup x = some c := by
  have q := PySem.W.cellsFrom_some sc.names n [] (.inl h)
  exact Option.isSome_iff_exists.mp q

theorem inv_start {CX : CXT} {P : Program} {w : World} {K : PySem.W.Frag} {mg : Str → Option Value} {base : Heap} {N ps : List Str} {qual : Str} {scope : Scope} {f : Addr} {cd : Value} {A : Around} {outer : List Env} {s s1 : Shared} {H : Hp} {E : XK} {us : List Value} {vs : List V}
    (S : FnScope N ps scope) (hd : A.handled = none) (e0 : Env0 P w K mg base A outer s H) (hl : vs.length = ps.length) (r : Vals vs us)
    (x : InCallC s s.heap.objs.size (bindL (envOfC qual scope s.heap.objs.size f cd).kindOf (ps.zip us) fun _ => none) (cellsFrom (s.heap.objs.size + 1) scope.names []) (bindC (envOfC qual scope s.heap.objs.size f cd).kindOf (ps.zip us) fun _ => none) s1) :
    Inv (cxOf CX P w K mg base N qual scope f cd A outer s H E) [] (start N vs) H s1 := by
  have hpl : ps.length ≤ N.length := by have := congrArg List.length S.pre; rw [List.length_take] at this; omega
  obtain ⟨h1, tk, rfl, hk⟩ := x.done
  have noA : ∀ b : Addr, b ∉ (cxOf CX P w K mg base N qual scope f cd A outer s H E).ex := fun b z => absurd (show b ∈ ([] : List Addr) from z) (by simp)
  refine ⟨⟨e0.mod, S.kind, rfl, rfl, Nat.le_refl _, fun y z c h1 h2 => ?_, fun y hy => ?_, fun y c _ h => ?_, fun _ => hd, Around.frames_deeper e0.frames, .inr ⟨rfl, rfl⟩, fun b z => absurd z (noA b), e0.bs, e0.bsz, fun b _ _ => noA b, fun b z => absurd z (noA b), e0.funs, e0.frf⟩,
    rfl, e0.bare, Un.kept hk, ⟨_, x.toInCall.ns, fun i y v h1 h2 h3 => ?_⟩, fun y c h => ⟨_, x.cell y c h⟩, e0.hok.fresh (Nat.le_refl _), fun y c h => ?_, fun p hp => absurd (show p ∈ ([] : List (Addr × Obj)) from hp) (by simp), e0.hok.kept hk, ?_⟩
  · exact name_of_addr x.apart (PySem.mem_of_lookup h1) (PySem.mem_of_lookup h2)
  · have hy : scope.names.lookup y = some .cell ∨ scope.names.lookup y = some .free := hy
    rcases hy with hy | hy
    · exact cell_has hy
    · exact absurd rfl (S.nofree _ (PySem.mem_of_lookup hy))
  · exact Nat.le_of_lt (x.above y c (PySem.mem_of_lookup h))
  · have hi : i < vs.length := by
      unfold start at h2
      by_cases hi : i < vs.length
      · exact hi
      · rw [List.getElem?_append_right (by simpa using hi)] at h2
        rw [List.getElem?_replicate] at h2
        split at h2 <;> cases h2
    have ha : vs[i]? = some v := by
      unfold start at h2
      rw [List.getElem?_append_left (by simpa using hi), List.getElem?_map] at h2
      cases e : vs[i]? with
      | none => rw [e] at h2; cases h2
      | some a => rw [e] at h2; cases h2; rfl
    obtain ⟨u, hu, rv⟩ := r.get ha
    have hp : ps[i]? = some y := by
      rw [← S.pre, List.getElem?_take_of_lt (by omega)]; exact h1
    have ndP : ps.Nodup := by rw [← S.pre]; exact S.nd.sublist (List.take_sublist _ _)
    refine ⟨u, rv, ?_⟩
    rcases S.par y (List.mem_of_getElem? hp) with k | k
    · exact .inl ⟨k, bindL_get ndP hp hu k⟩
    · obtain ⟨c, e⟩ := cell_has (n := s.heap.objs.size + 1) k
      refine .inr ⟨.inl k, c, e, ?_⟩
      have q := x.cell y c e
      rw [bindC_get ndP hp hu (by show scope.names.lookup y ≠ _; rw [k]; decide)] at q
      exact q
  · exact e0.hok.fresh (Nat.le_of_lt (x.above y c (PySem.mem_of_lookup h)))
  · unfold start
    show _ = N.length
    rw [List.length_append, List.length_map, List.length_replicate]
    omega

/-- THE RULE: a def (or a method) of the text, by its body. The body's reading t is chosen for each entry; it is run at the parameters' values -/
theorem fn_of {CX : CXT} {P : Program} {w : World} {K : PySem.W.Frag} {mg : Str → Option Value} {base : Heap} {k : Nat} {f : Addr} {name qual : Str} {params : Arguments} {body : List Stmt} {scope : Scope} {dV kV doc pm cdv ct oc : Value} {an od : Option Addr}
    {osl : Array (Option Value)} {N ps : List Str} {sp : Sp} (lk : K.lookup f = some ⟨oc, od, .func (PySem.W.fnOf name qual params body scope dV kV doc pm an cdv ct), osl⟩) (hcd : PySem.W.codeIn K cdv qual = true) (S : FnScope N ps scope)
    (len : ∀ vs H Q E, sp vs H Q E → vs.length = ps.length)
    (hbody : ∀ (A : Around) (outer : List Env) (s : Shared) (H : Hp) (vs : List V) (Q : VK) (E : XK), Room k (A.deeper (envOfC qual scope s.heap.objs.size f cdv)) → sp vs H Q E →
      ∃ t, PSs (cxOf CX P w K mg base N qual scope f cdv A outer s H E) body t ∧ t { nx := fun _ H' => Q .non H', rt := Q } (start N vs) H) :
    FnOk P w K mg base CX (k + 1) f (PySem.W.fnOf name qual params body scope dV kV doc pm an cdv ct) ps sp := by
  refine ⟨len, fun A outer s H args us vs Q E hr e0 hb r hsp => ?_⟩
  have hl := len _ _ _ _ hsp
  have KX : K.In s.heap := e0.mod.kin.keeps fun b o e => (e0.bs b o e).1
  have lim : s.heap.NoLimit := e0.mod.nolimit.keeps fun b o e => (e0.bs b o e).1
  have hkind : ∀ y ∈ ps.zip us, scope.names.lookup y.1 = some .local ∨ (scope.names.lookup y.1 = some .cell ∧ ((cellsFrom (s.heap.objs.size + 1) scope.names []).lookup y.1).isSome = true) := fun ⟨n, v⟩ hy => by
    rcases S.par n (List.of_mem_zip hy).1 with q | q
    · exact .inl q
    · exact .inr ⟨q, PySem.W.cellsFrom_some _ _ _ (.inl q)⟩
  refine codeAny_call_function hr.depth (KX _ _ lk) rfl S.co S.gen rfl (PySem.W.codeRec_of KX hcd) (hb _ _ _ _ ?_)
  refine wpAny_newFunctionEnv_cells S.kind hkind fun env he s1 x => ?_
  subst he
  refine ⟨lim.keeps x.toInCall.keep, codeAny_func ?_⟩
  obtain ⟨t, ht, hq⟩ := hbody A outer s H vs Q E (hr.deeper _) hsp
  have I : Inv (cxOf CX P w K mg base N qual scope f cdv A outer s H E) [] (start N vs) H s1 := inv_start S hr.hd e0 hl r x
  refine wpAny_mono (ht [] s1 (start N vs) H _ I hq) (fun fl s' hs => ?_) fun e s' hs => hs
  have fin : ∀ {σ' : St} {H' : Hp} {v : V} {u : Value}, Inv (cxOf CX P w K mg base N qual scope f cdv A outer s H E) [] σ' H' s' → RelV v u → Q v H' → CE outer P w H s Q u s' :=
    fun {σ' H' v u} J rv q => ⟨v, H', J.os, J.bare, J.base, J.hok, rv, q⟩
  cases fl with
  | ret u =>
    obtain ⟨v, σ', H', J, rv, q⟩ := hs
    exact fin J rv q
  | next =>
    obtain ⟨σ', H', J, q⟩ := hs
    exact fin (v := V.non) (u := Value.none) J rfl q
  | brk =>
    obtain ⟨_, _, _, q⟩ := hs
    exact False.elim q
  | cont =>
    obtain ⟨_, _, _, q⟩ := hs
    exact False.elim q
end L2

namespace L2
open PySem PySem.Spec PyProof.Rows
section
variable {X : Cx} {x : Str} {p pos : Pos} {e : Expr} {es : List Expr} {t : TA} {id T : String} {r : List V → Hp → VK → Prop}

def tCB (r : List V → Hp → VK → Prop) (t : TA) : TE := fun σ H Q => t σ H fun vs H1 => r vs H1 Q
/-- f(e, ..), f a built-in function -/
theorem pe_callB (hc : CallR X (.builtin id) r) (hg : Gl X x) (hm : X.mg x = none) (hv : bootBuiltins x = some (.builtin id)) (ha : PA X (e :: es) t) (hn : x ≠ "__name__" := by decide) (hdb : (x == ("__debug__" : Str)) = false := by decide)
    (he : starEach (e :: es) X.env = (false, eval e X.env) :: starEach es X.env := by rfl) (hpl : (backTo pos (starEach es X.env)).any (·.1) = false := by rfl) : PE X (.Call (.Name x p) (e :: es) [] pos) (tCB r t) := by
  intro pins s σ H Q I h
  refine wpAny_Call_Name_kw (ld_blt I hg hm hv ?_ hn hdb)
  exact PyProof.Rows.callWith_builtin1 (thn (ha pos pins s σ H _ I h) fun us s1 ⟨vs, H1, I1, r1, q1⟩ => hc pins s1 σ H1 vs us Q I1 r1 q1) he hpl
end
end L2

namespace HT
open PySem PyProof.Rows

section
open PySem.SeqAt
open PySem.AutoSeq1 (wpAny_loadPart')
open PySem.MeetsSeq PySem.MeetsSeq2 PySem.MeetsSeq3

end

section
variable {prog : Program} {w : World} {A : Around} {E : Value → Shared → Prop} {s : Shared}

/-! ### t[a:b], not the whole -/
end
end HT

namespace L2
open PySem PySem.Spec PyProof.Rows

/-! ### the parts of a slice -/
section
variable {X : Cx} {e : Expr} {te : TE} {lo hi : Option Expr} {tl th : TO} {pos p2 : Pos}

/-! ### t < u, t + u -/
end
end L2

namespace L2
open PySem PySem.Spec PyProof.Rows

/-! ### places -/
/-- the place that an index of any sign means -/
def ixN (n : Nat) (i : Int) : Option Nat := if 0 ≤ i then (if i < n then some i.toNat else none) else if -(n : Int) ≤ i then some (i + n).toNat else none
def atI {α : Type} (xs : List α) (i : Int) : Option α := (ixN xs.length i).bind fun j => xs[j]?
theorem ixN_seq {n : Nat} {i : Int} {j : Nat} (h : ixN n i = some j) : seqIndex? i n = some j ∧ j < n ∧ -(n : Int) ≤ i ∧ i < n := by
  unfold ixN at h
  by_cases h0 : 0 ≤ i
  · rw [if_pos h0] at h
    by_cases h1 : i < n
    · rw [if_pos h1] at h
      have e : i.toNat = j := Option.some.inj h
      exact ⟨by rw [seqIndex_of h0 h1, e], by omega, by omega, h1⟩
    · rw [if_neg h1] at h; cases h
  · rw [if_neg h0] at h
    by_cases h1 : -(n : Int) ≤ i
    · rw [if_pos h1] at h
      have e : (i + n).toNat = j := Option.some.inj h
      exact ⟨by rw [seqIndex_neg (by omega) h1, e], by omega, h1, by omega⟩
    · rw [if_neg h1] at h; cases h
theorem atI_get {α : Type} {xs : List α} {i : Int} {v : α} (h : atI xs i = some v) : ∃ j, seqIndex? i xs.length = some j ∧ xs[j]? = some v ∧ j < xs.length ∧ -(xs.length : Int) ≤ i ∧ i < xs.length := by
  unfold atI at h
  cases e : ixN xs.length i with
  | none => rw [e] at h; cases h
  | some j =>
    rw [e] at h
    obtain ⟨h1, h2, h3, h4⟩ := ixN_seq e
    exact ⟨j, h1, h, h2, h3, h4⟩
theorem atI_nat {α : Type} {xs : List α} {j : Nat} {v : α} (h : xs[j]? = some v) : atI xs (j : Int) = some v := by
  have hj : j < xs.length := (List.getElem?_eq_some_iff.mp h).1
  have e : ixN xs.length (j : Int) = some j := by
    unfold ixN
    rw [if_pos (by omega), if_pos (by omega)]; simp
  unfold atI; rw [e]; exact h
/-! ### what may be subscripted -/
/-- what stands as an index of a plain subscript -/
def PlainIx (b : Expr) : Prop := ∀ o i, subscripted b false o i = operate [o, i] (getItem o i)
/-- a subscript by values -/
def IxR (X : Cx) (r : R2) : Prop :=
  ∀ (value slice : Expr) (pins : List (Addr × Obj)) (s : Shared) (σ : St) (H : Hp) (x y : V) (v u : Value) (Q : VK), Inv X pins σ H s → RelV x v → RelV y u → r x y H Q →
    subscripted slice false v u = operate [v, u] (getItem v u) → wpAny (model X.prog X.w) X.A (subscriptTail value slice v u) (EP X pins σ Q) X.xe s
/-- a call of a builtin's method by values: the receiver, the arguments -/
def MtR (X : Cx) (id : String) (r : V → List V → Hp → VK → Prop) : Prop :=
  ∀ (pins : List (Addr × Obj)) (s : Shared) (σ : St) (H : Hp) (x : V) (xs : List V) (v : Value) (us : List Value) (Q : VK), Inv X pins σ H s → RelV x v → Vals xs us → r x xs H Q →
    wpAny (model X.prog X.w) X.A (call (.builtin id) (v :: us)) (EP X pins σ Q) X.xe s
section
variable {X : Cx} {a b : Expr} {ta tb : TE} {pos : Pos}
/-- a[b] -/
theorem pe_ix {r : R2} (hr : IxR X r) (ha : PE X a ta) (hb : PE X b tb) (hs : PlainIx b) : PE X (.Subscript a b pos) (tOp r ta tb) := by
  intro pins s σ H Q I h
  exact Subscript_ (binT ha hb I h fun v u s2 x y H2 I2 rx ry q => hr a b pins s2 σ H2 x y v u Q I2 rx ry q (hs _ _))

def rIxL (K : PySem.W.Frag) : R2 := fun x y H Q => ∃ p xs i v, x = .ref p ∧ y = .int i ∧ SqL K H p xs ∧ atI xs i = some v ∧ Q v H
def rIxT (K : PySem.W.Frag) : R2 := fun x y H Q => ∃ p xs i v, x = .ref p ∧ y = .int i ∧ SqT K H p xs ∧ atI xs i = some v ∧ Q v H
theorem ix_list : IxR X (rIxL X.K) := by
  intro value slice pins s σ H x y v u Q I rx ry h hs
  obtain ⟨p, xs, i, z, rfl, rfl, hq, he, q⟩ := h
  cases rx
  obtain ⟨t, rfl⟩ := ry
  obtain ⟨its, r, pl, hz⟩ := I.list hq
  obtain ⟨j, h1, h2, h3, h4, h5⟩ := atI_get he
  obtain ⟨w, ew, rw'⟩ := r.get h2
  have hl := r.length
  have hn := line63
  have fin : EP X pins σ Q w s := ⟨z, H, I, rw', q⟩
  by_cases h0 : 0 ≤ i
  · have hj : i.toNat = j := by
      rw [seqIndex_of h0 h5] at h1
      exact Option.some.inj h1
    exact item_listR pl.isList h0 (by omega) (by rw [hj]; simpa using ew) fin hs
  · have hj : (i + (its.toArray.size : Int)).toNat = j := by
      rw [seqIndex_neg (by omega) h4] at h1
      rw [List.size_toArray, ← hl]
      exact Option.some.inj h1
    exact subscriptTail_builtinR (x := w) pl.isList.typeIs slot_list_getitem.lookup
      (wpAny_getItem_list_neg (Q := fun r s' => r = w ∧ EP X pins σ Q r s') pl.isList (by omega) (by rw [List.size_toArray] <;> omega) (by omega) (by rw [hj]; simpa using ew) ⟨rfl, fin⟩) hs
theorem ix_tup : IxR X (rIxT X.K) := by
  intro value slice pins s σ H x y v u Q I rx ry h hs
  obtain ⟨p, xs, i, z, rfl, rfl, hq, he, q⟩ := h
  cases rx
  obtain ⟨t, rfl⟩ := ry
  obtain ⟨its, r, pl, hz⟩ := I.tuple hq
  obtain ⟨j, h1, h2, h3, h4, h5⟩ := atI_get he
  obtain ⟨w, ew, rw'⟩ := r.get h2
  have hl := r.length
  have hn := line63
  have fin : EP X pins σ Q w s := ⟨z, H, I, rw', q⟩
  exact subscriptTail_builtinR (x := w) pl.typeIs slot_tuple_getitem.lookup
    (getItem_tuple (j := j) (Q := fun r s' => r = w ∧ EP X pins σ Q r s') pl (by omega) (by omega) (by rw [List.size_toArray, ← hl]; exact h1) (by simpa using ew) ⟨rfl, fin⟩) hs
/-! ### xs[i] = v, any sign -/
/-! ### slices -/
/-! ### in, not in: flat items -/
/-! ### len, list(x), tuple(x) of any list or tuple that is read -/
theorem call_len_seq : CallR X (.builtin "len") (fun xs H Q => ∃ p ys, xs = [.ref p] ∧ (SqL X.K H p ys ∨ SqT X.K H p ys) ∧ Q (.int ys.length) H) := by
  intro pins s σ H xs us Q I r h
  obtain ⟨p, ys, rfl, hq, q⟩ := h
  obtain ⟨u, rfl, rx⟩ := vals1 r
  cases rx
  have hn := line63
  rcases hq with hq | hq
  · obtain ⟨its, r', pl, hz⟩ := I.list hq
    have hlen := r'.length
    exact Calls.call_len_list pl.isList (by simp only [List.size_toArray] <;> omega) ⟨.int ys.length, H, I.tok _, ⟨s.toks + 1, by rw [List.size_toArray, hlen]⟩, q⟩
  · obtain ⟨its, r', pl, hz⟩ := I.tuple hq
    have hlen := r'.length
    exact len_tuple pl (by simp only [List.size_toArray] <;> omega) ⟨.int ys.length, H, I.tok _, ⟨s.toks + 1, by rw [List.size_toArray, hlen]⟩, q⟩
/-! ### the call of a builtin's method: o.m(..) -/
/-- the value is of that builtin type -/
def tyV (K : PySem.W.Frag) (T : String) (x : V) (H : Hp) : Prop := match x with
  | .str _ => T = "str"
  | .int _ => T = "int"
  | .ref p => (T = "list" ∧ ∃ xs, SqL K H p xs) ∨ (T = "tuple" ∧ ∃ o, K.lookup p = some o ∧ o.cls = .type "tuple" ∧ o.dict = none) ∨
      (T = "dict" ∧ ((∃ kvs, H p = some (.dK kvs)) ∨ ∃ kvs, H p = some (.dT kvs))) ∨ (T = "set" ∧ ∃ S n, H p = some (.set S n))
  | _ => False
theorem tyV_is {pins : List (Addr × Obj)} {σ : St} {H : Hp} {s : Shared} {T : String} {x : V} {v : Value} (I : Inv X pins σ H s) (r : RelV x v) (ty : tyV X.K T x H) :
    s.TypeIs v T ∧ ∀ a, v = .ref a → ∃ ob, s.heap.get? a = some ob ∧ ob.dict = none := by
  cases x with
  | str z =>
    obtain ⟨t, rfl⟩ := r
    cases (show T = "str" from ty)
    exact ⟨typeIs_str s z t, fun _ e => nomatch e⟩
  | int i =>
    obtain ⟨t, rfl⟩ := r
    cases (show T = "int" from ty)
    exact ⟨typeIs_int s i t, fun _ e => nomatch e⟩
  | ref p =>
    cases r
    rcases ty with ⟨rfl, xs, hq⟩ | ⟨rfl, o, hk, hc, hd⟩ | ⟨rfl, hk⟩ | ⟨rfl, S, n, hk⟩
    · obtain ⟨its, _, pl, _⟩ := I.list hq
      refine ⟨pl.isList.typeIs, fun a e => ?_⟩
      cases e
      obtain ⟨o, n, e, c, hd, _⟩ := pl
      exact ⟨o, e, hd⟩
    · refine ⟨⟨o, I.kIn p o hk, hc⟩, fun a e => ?_⟩
      cases e
      exact ⟨o, I.kIn _ o hk, hd⟩
    · have z : ∃ o, s.heap.get? p = some o ∧ o.ExactDict := by
        rcases hk with ⟨kvs, hk⟩ | ⟨kvs, hk⟩
        · obtain ⟨_, _, _, _, o, _, _, e, ex, _⟩ := I.hok p _ hk
          exact ⟨o, e, ex⟩
        · obtain ⟨_, _, _, _, o, _, _, e, ex, _⟩ := I.hok p _ hk
          exact ⟨o, e, ex⟩
      obtain ⟨o, e, ex⟩ := z
      refine ⟨⟨o, e, ex.1⟩, fun a e2 => ?_⟩
      cases e2
      exact ⟨o, e, ex.2.1⟩
    · obtain ⟨o, _, _, _, e, ex, _⟩ := I.hok p _ hk
      refine ⟨⟨o, e, ex.1⟩, fun a e2 => ?_⟩
      cases e2
      exact ⟨o, e, ex.2.1⟩
  | _ => exact False.elim ty
def tBM (K : PySem.W.Frag) (T : String) (r : V → List V → Hp → VK → Prop) (to : TE) (t : TA) : TE := fun σ H Q => to σ H fun x H1 => tyV K T x H1 ∧ t σ H1 fun xs H2 => r x xs H2 Q
variable {o e : Expr} {es : List Expr} {to : TE} {t : TA} {name : Str} {apos cpos : Pos} {T id : String} {r : V → List V → Hp → VK → Prop}
theorem pe_bm (pa : PlainAttrs T) (slot : Slot T name id) (hty : typeOf (.builtin id) = pure (.type "method_descriptor")) (hm : MtR X id r) (ho : PE X o to) (ha : PA X (e :: es) t)
    (hbase : attributeBase o name X.env (eval o X.env) = eval o X.env := by rfl)
    (hfew : ((backTo cpos (starEach (e :: es) X.env)).all (fun x => !x.1) && (backToKw cpos (keywordEach [] X.env)).all (fun x => x.1.isSome)
      && decide ((e :: es).length + ([] : List Keyword).length + (if ([] : List Keyword).isEmpty then 0 else 1) < 30)) = true := by rfl)
    (hline : (apos.endLine == cpos.line) = true := by rfl) (hs : starEach (e :: es) X.env = (false, eval e X.env) :: starEach es X.env := by rfl) (hplain : (backTo cpos (starEach es X.env)).any (·.1) = false := by rfl) :
    PE X (.Call (.Attribute o name apos) (e :: es) [] cpos) (tBM X.K T r to t) := by
  intro pins s σ H Q I h
  refine wpAny_Call_method_late hbase hfew hline rfl (thn (ho pins s σ H _ I h) fun v s1 ⟨x, H1, I1, r1, ty, q1⟩ => ?_)
  obtain ⟨h1, h2⟩ := tyV_is I1 r1 ty
  refine ⟨T, id, pa, slot, hty, h1, h2, ?_⟩
  have hA := ha cpos pins s1 σ H1 _ I1 q1
  rw [hs] at hA ⊢
  refine Calls.callWith_builtin (by show (false || (backTo cpos (starEach es X.env)).any (·.1)) = false; rw [hplain] <;> rfl) (Calls.evalArgs_plain ?_)
  exact thn hA fun us s2 ⟨vs, H2, I2, r2, q2⟩ => hm pins s2 σ H2 x vs v us Q I2 r1 r2 q2
/- xs.append(e), list.index on a module's tuple .. are MtR facts of 06m -/
end
end L2

namespace L2
open PySem PySem.Spec PyProof.Rows

def MtM (X : Cx) (id : String) (r : V → List V → Hp → VK → Prop) : Prop :=
  ∀ (pins : List (Addr × Obj)) (s : Shared) (σ : St) (H : Hp) (x : V) (xs : List V) (v : Value) (us : List Value) (Q : VK), Inv X pins σ H s → RelV x v → Vals xs us → r x xs H Q →
    wpAny (model X.prog X.w) X.A (call (.builtin id) (v :: us)) (EP X pins σ Q) X.xe s

/-! ### lists of values -/
theorem Vals.one : ∀ {x : V} {us : List Value}, Vals [x] us → ∃ u, us = [u] ∧ RelV x u
  | _, _, .cons r .nil => ⟨_, rfl, r⟩
section
variable {X : Cx} {pins : List (Addr × Obj)} {σ : St} {H : Hp} {s : Shared} {l b : Addr} {xs ys zs : List V}

/-! ### the two steps: a tracked list is rewritten, a new list is laid -/
theorem Inv.lset {its its' : List Value} {n : Nat} {f : Array Value → Array Value} {t' : Nat} (I : Inv X pins σ H s) (hH : H l = some (.lst xs))
    (e : s.heap.get? l = some { cls := .type "list", data := .seq its.toArray n }) (hf : f its.toArray = its'.toArray) (hv : Vals ys its') (hz : ys.length ≤ sizeLine) :
    Inv X pins σ (upd H l (.lst ys)) { s with heap := s.heap.update l (Obj.mapSeq f), toks := t' } := by
  have q := PySem.IsL.update e f
  rw [hf] at q
  refine I.write (x := l) (e := l) (by rw [hH]; exact trivial) (.inl rfl) (fun b' u hb hu => (Heap.get?_update_other s.heap (Obj.mapSeq f) (Ne.symm hb)).trans hu) ⟨_, q⟩ ?_
  exact ⟨hz, its', _, hv, q⟩
theorem Inv.lnew {its : List Value} {t' : Nat} (I : Inv X pins σ H s) (hv : Vals ys its) (hz : ys.length ≤ sizeLine) :
    Inv X pins σ (upd H s.heap.objs.size (.lst ys)) { s with heap := s.heap.push { cls := .type "list", data := .seq its.toArray }, toks := t' } :=
  I.laid (fun _ _ q => Heap.get?_push_of_some _ q) (Nat.le_refl _) ⟨hz, its, 0, hv, Heap.get?_push_size _ rfl⟩
theorem Inv.fresh (I : Inv X pins σ H s) : H s.heap.objs.size = none := I.hok.fresh (Nat.le_refl _)
theorem Inv.lstM (I : Inv X pins σ H s) (hH : H l = some (.lst xs)) : xs.length ≤ sizeLine ∧ ∃ (its : List Value) (n : Nat), Vals xs its ∧ xs.length = its.length ∧ s.heap.get? l = some { cls := .type "list", data := .seq its.toArray n } := by
  obtain ⟨z, its, n, r, e⟩ := I.hok l _ hH
  exact ⟨z, its, n, r, r.length, e⟩

theorem notLongL {n : Nat} (h : n ≤ sizeLine) : Builtin.List.listTooLong n = false := by
  unfold Builtin.List.listTooLong
  exact decide_eq_false (by omega)
end

section
variable {X : Cx}

/-! ### methods -/
def rAppend : V → List V → Hp → VK → Prop := fun x vs H Q => ∃ l xs y, x = .ref l ∧ vs = [y] ∧ H l = some (.lst xs) ∧ xs.length < sizeLine ∧ Q .non (upd H l (.lst (xs ++ [y])))
theorem mt_append : MtM X "list.append" rAppend := by
  intro pins s σ H x vs v us Q I rx rv h
  obtain ⟨l, xs, y, rfl, rfl, hH, hz, q⟩ := h
  cases rx
  obtain ⟨u, rfl, ru⟩ := rv.one
  obtain ⟨z, its, n, r, hl, e⟩ := I.lstM hH
  refine call_meets F.slot_list_append ⟨_, e, rfl⟩ F.entry_list_append (F.args_list_append_2 _ _) (PySem.list_append l its.toArray n u (by rw [List.size_toArray]; omega)) ⟨e, ?_⟩
  refine ⟨.non, _, I.lset (its' := its ++ [u]) hH e (by simp) (r.append (.cons ru .nil)) ?_, rfl, q⟩
  rw [List.length_append, List.length_singleton]
  omega

def rExtend : V → List V → Hp → VK → Prop := fun x vs H Q => ∃ l b xs zs, x = .ref l ∧ vs = [.ref b] ∧ H l = some (.lst xs) ∧ H b = some (.lst zs) ∧ xs.length + zs.length ≤ sizeLine ∧ Q .non (upd H l (.lst (xs ++ zs)))
theorem mt_extend : MtM X "list.extend" rExtend := by
  intro pins s σ H x vs v us Q I rx rv h
  obtain ⟨l, b, xs, zs, rfl, rfl, hH, hB, hz, q⟩ := h
  cases rx
  obtain ⟨u, rfl, ru⟩ := rv.one
  cases ru
  obtain ⟨z, its, n, r, hl, e⟩ := I.lstM hH
  obtain ⟨z2, its2, n2, r2, hl2, e2⟩ := I.lstM hB
  have hsz : its.toArray.size + its2.toArray.size ≤ sizeLine := by rw [List.size_toArray, List.size_toArray]; omega
  have hlong : ¬ (!its.toArray.isEmpty && Builtin.List.listTooLong (its.toArray.size + its2.toArray.size)) = true := by
    rw [notLongL hsz, Bool.and_false]
    exact Bool.false_ne_true
  refine call_meets F.slot_list_extend ⟨_, e, rfl⟩ F.entry_list_extend (F.args_list_extend_2 _ _)
    (AutoSeq1.list_extend_list_list_0 l its.toArray n b its2.toArray n2 hlong (by rw [List.size_toArray]; omega) (by omega)) ⟨e, e2, ?_⟩
  refine ⟨.non, _, I.lset (its' := its ++ its2) hH e (by simp) (r.append r2) ?_, rfl, q⟩
  rw [List.length_append]
  omega

/-! ### list + list, list += list, list * int -/
def rCat : R2 := fun x y H Q => ∃ l b xs zs, x = .ref l ∧ y = .ref b ∧ H l = some (.lst xs) ∧ H b = some (.lst zs) ∧ xs.length + zs.length ≤ sizeLine ∧ ∀ p, H p = none → Q (.ref p) (upd H p (.lst (xs ++ zs)))
theorem op_cat : OpR X (binaryOp .Add) rCat := by
  intro pins s σ H x y v u Q I rx ry h
  obtain ⟨l, b, xs, zs, rfl, rfl, hH, hB, hz, q⟩ := h
  cases rx
  cases ry
  obtain ⟨z, its, n, r, hl, e⟩ := I.lstM hH
  obtain ⟨z2, its2, n2, r2, hl2, e2⟩ := I.lstM hB
  refine PySem.P.add_list e e2 ?_ (by rw [List.size_toArray, List.size_toArray]; omega)
  have ea : its.toArray ++ its2.toArray = (its ++ its2).toArray := by simp
  rw [ea]
  exact ⟨.ref _, _, I.lnew (t' := s.toks) (r.append r2) (by rw [List.length_append]; omega), rfl, q _ I.fresh⟩
/-! ### del xs[i] -/
end

/-! ### xs[a:b] = ys -/
section
variable {prog : Program} {w : World} {A : Around} {E : Value → Shared → Prop} {s : Shared}
end

section
variable {X : Cx}
end
end L2

namespace L2
open PySem PySem.Spec PyProof.Rows

/-! ### the library's walks over a list of ints, kept objects alone -/
section
variable {prog : Program} {w : World} {A : Around} {E : Value → Shared → Prop} {s : Shared} {l : Addr} {its : List Value} {ns : List Int} {Q : Value → Shared → Prop}
end

/-! ### the calls, by values (CallR of 03t; MtR of 06l) -/
section
variable {X : Cx}
/-! sorted, sort (fewer than 64 items: the library's own bound) -/
end

/-! ### list.index, flat items -/
section
variable {X : Cx}
end

/-! ### type(x) of an own instance; is, is not of a module's class -/
section
variable {X : Cx}
end

/-! ### any(xs), all(xs) of a list of bools -/
section
variable {X : Cx}
end

/-! ### == and != of data at any depth: none, bools, ints, texts, lists, tuples -/
section
variable {X : Cx} {pins : List (Addr × Obj)} {σ : St} {H : Hp} {s : Shared}
end
section
variable {X : Cx}
end
end L2

namespace L2
open PySem PySem.Spec PyProof.Rows
abbrev CellAt (h : Heap) (c : Addr) (v : Option Value) : Prop := h.IsCell c v
def relS (scope sc : Scope) : Scope :=
  { scope with names := scope.names.map fun (n, k) => if (k == .free && sc.kind == .function && sc.names.lookup n == some .cell) then (n, .cell) else (n, k) }

def cloFrom (cells : List (Str × Addr)) : List (Str × NameKind) → List (Str × Addr) → List (Str × Addr)
  | [], acc => acc
  | (n, k) :: r, acc => if k == .free then cloFrom cells r ((n, (cells.lookup n).getD 0) :: acc) else cloFrom cells r acc

theorem closure_loop (env : Env) (f : Str × NameKind → List (Str × Addr) → Sem (ForInStep (List (Str × Addr))))
    (hf : ∀ n k c, f (n, k) c = if k == .free then (do let a ← cellOf env n; pure (.yield ((n, a) :: c))) else pure (.yield c)) :
    ∀ (names : List (Str × NameKind)) (acc : List (Str × Addr)), (∀ y ∈ names, y.2 = .free → ∃ c, env.cells.lookup y.1 = some c) → forIn names acc f = pure (cloFrom env.cells names acc)
  | [], acc, _ => by rw [List.forIn_nil]; rfl
  | (n, k) :: r, acc, h => by
    rw [List.forIn_cons, hf]
    have ih := fun acc => closure_loop env f hf r acc fun y hy => h y (List.mem_cons_of_mem _ hy)
    unfold cloFrom
    by_cases hk : (k == NameKind.free) = true
    · rw [if_pos hk, if_pos hk]
      obtain ⟨c, hc⟩ := h (n, k) List.mem_cons_self (by simpa using hk)
      have e : cellOf env n = pure c := by unfold cellOf; rw [hc]
      rw [e]
      have e2 : (env.cells.lookup n).getD 0 = c := by rw [hc]; rfl
      rw [e2]
      exact ih _
    · rw [if_neg hk, if_neg hk]
      exact ih _
theorem closure_ok {scope : Scope} {env : Env} (h : ∀ y ∈ scope.names, y.2 = .free → ∃ c, env.cells.lookup y.1 = some c) : closureFor scope env = pure (cloFrom env.cells scope.names []) := by
  simp only [closureFor]
  rw [closure_loop env _ (fun n k c => rfl) scope.names [] h]
  rfl

theorem mem_lookup {α : Type} : ∀ {l : List (Str × α)} {n : Str} {c : α}, (n, c) ∈ l → ∃ c', l.lookup n = some c'
  | (k, v) :: r, n, c, h => by
    rw [List.lookup_cons]
    cases hb : n == k with
    | true => exact ⟨_, rfl⟩
    | false =>
      rcases List.mem_cons.mp h with e | h
      · cases e; simp at hb
      · exact mem_lookup h

theorem cloFrom_mem {cells : List (Str × Addr)} : ∀ {names : List (Str × NameKind)} {acc : List (Str × Addr)} {n : Str} {c : Addr}, (n, c) ∈ cloFrom cells names acc → (n, c) ∈ acc ∨ ((n, .free) ∈ names ∧ c = (cells.lookup n).getD 0)
  | [], _, _, _, h => .inl h
  | (m, k) :: r, acc, n, c, h => by
    unfold cloFrom at h
    split at h
    · rename_i hk
      have hk : k = .free := by simpa using hk
      rcases cloFrom_mem h with h | ⟨h1, h2⟩
      · rcases List.mem_cons.mp h with e | h
        · cases e; exact .inr ⟨hk ▸ List.mem_cons_self, rfl⟩
        · exact .inl h
      · exact .inr ⟨List.mem_cons_of_mem _ h1, h2⟩
    · rcases cloFrom_mem h with h | ⟨h1, h2⟩
      · exact .inl h
      · exact .inr ⟨List.mem_cons_of_mem _ h1, h2⟩
theorem cloFrom_acc {cells : List (Str × Addr)} : ∀ {names : List (Str × NameKind)} {acc : List (Str × Addr)} {p : Str × Addr}, p ∈ acc → p ∈ cloFrom cells names acc
  | [], _, _, h => h
  | (m, k) :: r, acc, p, h => by
    unfold cloFrom
    split
    · exact cloFrom_acc (List.mem_cons_of_mem _ h)
    · exact cloFrom_acc h
theorem cloFrom_has {cells : List (Str × Addr)} : ∀ {names : List (Str × NameKind)} {acc : List (Str × Addr)} {n : Str}, (n, .free) ∈ names → (n, (cells.lookup n).getD 0) ∈ cloFrom cells names acc
  | (m, k) :: r, acc, n, h => by
    unfold cloFrom
    rcases List.mem_cons.mp h with e | h
    · cases e
      exact cloFrom_acc List.mem_cons_self
    · split
      · exact cloFrom_has h
      · exact cloFrom_has h

theorem cells_mem : ∀ {names : List (Str × NameKind)} {h : Heap} {acc : List (Str × Addr)} {x : Str} {c : Addr}, (x, c) ∈ cellsFrom h.objs.size names acc →
    (x, c) ∈ acc ∨ ((x, .cell) ∈ names ∧ h.objs.size ≤ c ∧ CellAt (pushCells h names) c none)
  | [], _, _, _, _, h => .inl h
  | (n, k) :: r, h, acc, x, c, hm => by
    unfold cellsFrom at hm
    unfold pushCells
    split at hm
    · rename_i hk
      rw [if_pos hk]
      have hk : k = .cell := by simpa using hk
      rw [← Heap.size_push h { cls := .type "cell", data := .cell none }] at hm
      rcases cells_mem hm with hm | ⟨h1, h2, h3⟩
      · rcases List.mem_cons.mp hm with e | hm
        · cases e
          exact .inr ⟨hk ▸ List.mem_cons_self, Nat.le_refl _, _, pushCells_keeps r _ _ _ (Heap.get?_push_size _ rfl), rfl⟩
        · exact .inl hm
      · rw [Heap.size_push] at h2
        exact .inr ⟨List.mem_cons_of_mem _ h1, Nat.le_of_succ_le h2, h3⟩
    · rename_i hk
      rw [if_neg hk]
      rcases cells_mem hm with hm | ⟨h1, h2, h3⟩
      · exact .inl hm
      · exact .inr ⟨List.mem_cons_of_mem _ h1, h2, h3⟩
theorem cells_acc : ∀ {names : List (Str × NameKind)} {n : Nat} {acc : List (Str × Addr)} {p : Str × Addr}, p ∈ acc → p ∈ cellsFrom n names acc
  | [], _, _, _, h => h
  | (m, k) :: r, n, acc, p, h => by
    unfold cellsFrom
    split
    · exact cells_acc (List.mem_cons_of_mem _ h)
    · exact cells_acc h
theorem cells_has : ∀ {names : List (Str × NameKind)} {n : Nat} {acc : List (Str × Addr)} {x : Str}, (x, .cell) ∈ names → ∃ c, (x, c) ∈ cellsFrom n names acc
  | (m, k) :: r, n, acc, x, h => by
    unfold cellsFrom
    rcases List.mem_cons.mp h with e | h
    · cases e
      exact ⟨n, cells_acc List.mem_cons_self⟩
    · split
      · exact cells_has h
      · exact cells_has h
theorem cells_inj : ∀ {names : List (Str × NameKind)} {h : Heap} {acc : List (Str × Addr)} {x y : Str} {c : Addr}, (∀ p ∈ acc, p.2 < h.objs.size) → (∀ x y c, (x, c) ∈ acc → (y, c) ∈ acc → x = y) →
    (x, c) ∈ cellsFrom h.objs.size names acc → (y, c) ∈ cellsFrom h.objs.size names acc → x = y
  | [], _, _, _, _, _, _, hi, h1, h2 => hi _ _ _ h1 h2
  | (n, k) :: r, h, acc, x, y, c, hl, hi, h1, h2 => by
    unfold cellsFrom at h1 h2
    split at h1
    · rename_i hk
      rw [if_pos hk] at h2
      rw [← Heap.size_push h { cls := .type "cell", data := .cell none }] at h1 h2
      refine cells_inj (h := h.push _) (fun p hp => ?_) (fun x y c a b => ?_) h1 h2
      · rw [Heap.size_push]
        rcases List.mem_cons.mp hp with rfl | hp
        · exact Nat.lt_succ_self _
        · exact Nat.lt_succ_of_lt (hl p hp)
      · rcases List.mem_cons.mp a with e | a <;> rcases List.mem_cons.mp b with e' | b
        · cases e; cases e'; rfl
        · cases e; exact absurd (hl _ b) (Nat.lt_irrefl _)
        · cases e'; exact absurd (hl _ a) (Nat.lt_irrefl _)
        · exact hi _ _ _ a b
    · rename_i hk
      rw [if_neg hk] at h2
      exact cells_inj hl hi h1 h2

theorem newEnv_comp {M : Model} {A : Around} {E : Value → Shared → Prop} {s : Shared} {scope : Scope} {globals : Addr} {closure : List (Str × Addr)} {qual : Str} {func : Option Addr} {code : Value} {around : Env} {builtins : Addr} {Q : Env → Shared → Prop}
    (h : Q (newEnv scope s.heap.objs.size globals (cellsFrom (s.heap.objs.size + 1) scope.names closure) qual func code (some around) builtins)
      { s with heap := pushCells (s.heap.push { cls := .type "dict", data := .dict #[] }) scope.names }) :
    wpAny M A (newFunctionEnv scope globals closure [] qual func code (some around) builtins) Q E s := by
  simp only [newFunctionEnv, Option.isSome_some, if_true]
  refine wpAny_bind (wpAny_alloc ?_)
  refine wpAny_bind (wpAny_layCells _ (fun n k c => rfl) scope.names closure _ _ ?_)
  rw [show ({ s with heap := s.heap.push { cls := .type "dict", data := .dict #[] } } : Shared).heap.objs.size = s.heap.objs.size + 1 from Heap.size_push ..]
  rw [List.forIn_nil]
  exact wpAny_bind (wpAny_pure (wpAny_pure h))

/-- every name of the written scope, in the scope that runs -/
theorem lookup_relS {sc : Scope} : ∀ {names : List (Str × NameKind)} {x : Str} {k : NameKind},
    (names.map fun (n, k) => if (k == NameKind.free && sc.kind == .function && sc.names.lookup n == some .cell) then (n, NameKind.cell) else (n, k)).lookup x = some k →
    ∃ k', names.lookup x = some k' ∧ (k = k' ∨ (k' = .free ∧ k = .cell))
  | [], _, _, h => by simp at h
  | (n, k₀) :: r, x, k, h => by
    have ih := @lookup_relS sc r x k
    have h' : List.lookup x ((if (k₀ == NameKind.free && sc.kind == .function && sc.names.lookup n == some .cell) = true then (n, NameKind.cell) else (n, k₀)) :: (r.map _)) = some k := h
    cases hx : x == n with
    | true =>
      simp only [List.lookup_cons, hx]
      by_cases hc : (k₀ == NameKind.free && sc.kind == .function && sc.names.lookup n == some .cell) = true
      · rw [if_pos hc] at h'
        simp only [List.lookup_cons, hx] at h'
        cases h'
        simp only [Bool.and_eq_true, beq_iff_eq] at hc
        exact ⟨k₀, rfl, .inr ⟨hc.1.1, rfl⟩⟩
      · rw [if_neg hc] at h'
        simp only [List.lookup_cons, hx] at h'
        cases h'
        exact ⟨_, rfl, .inl rfl⟩
    | false =>
      simp only [List.lookup_cons, hx]
      by_cases hc : (k₀ == NameKind.free && sc.kind == .function && sc.names.lookup n == some .cell) = true
      · rw [if_pos hc] at h'
        simp only [List.lookup_cons, hx] at h'
        exact ih h'
      · rw [if_neg hc] at h'
        simp only [List.lookup_cons, hx] at h'
        exact ih h'
/-- the names of a comprehension's block: its own (with their places in N), or captured -/
structure BlkOk (N : List Str) (sc scope : Scope) (own : List (Str × Nat)) : Prop where
  kind : scope.kind = .function
  uniq : ∀ y ∈ scope.names, scope.names.lookup y.1 = some y.2
  ix : ∀ p ∈ own, N[p.2]? = some p.1
  free : ∀ y ∈ scope.names, y.2 = .free → sc.names.lookup y.1 = some .cell ∨ sc.names.lookup y.1 = some .free
  own : ∀ y ∈ scope.names, y.2 = .local ∨ y.2 = .cell → y.1 ∈ own.map (·.1) ∨ y.1 ∉ N
/-- the slots of the block's own names forgotten -/
def wipe (σ : St) : List Nat → St
  | [] => σ
  | v :: vs => (wipe σ vs).set v none
theorem wipe_length (σ : St) : ∀ vs : List Nat, (wipe σ vs).length = σ.length
  | [] => rfl
  | v :: vs => by unfold wipe; rw [List.length_set, wipe_length σ vs]
theorem wipe_some {σ : St} {i : Nat} {x : V} : ∀ {vs : List Nat}, (wipe σ vs)[i]? = some (some x) → σ[i]? = some (some x) ∧ i ∉ vs
  | [], h => ⟨h, by simp⟩
  | v :: vs, h => by
    unfold wipe at h
    by_cases hi : v = i
    · subst hi
      by_cases hv : v < (wipe σ vs).length
      · rw [List.getElem?_set_self hv] at h; cases h
      · rw [List.getElem?_eq_none (by simpa using hv)] at h; cases h
    · rw [List.getElem?_set_ne hi] at h
      obtain ⟨h1, h2⟩ := wipe_some h
      exact ⟨h1, by simp only [List.mem_cons, not_or]; exact ⟨fun e => hi e.symm, h2⟩⟩

/-- the context of a block that starts at s, its iterator's objects at fp -/
abbrev Cx.blk (X : Cx) (s : Shared) (H : Hp) (scope : Scope) (cenv : Env) (fp : List Addr) : Cx := { X with s_0 := s, H_0 := H, env := cenv, outer := X.stack, ex := fp, fn := fun x => scope.names.lookup x == some .cell, pn := [], xe := fun _ _ => False }
section
variable {X : Cx} {pins : List (Addr × Obj)} {σ : St} {H : Hp} {s : Shared}
theorem block_start {scope : Scope} {own : List (Str × Nat)} {fp : List Addr} (I : Inv X pins σ H s) (ok : BlkOk X.N X.env.scope scope own) (hN : X.N.Nodup) (hfp : ∀ b ∈ fp, FpOk X pins H b ∧ b < s.heap.objs.size) :
    Inv (X.blk s H scope (compEnvC scope (cellsFrom (s.heap.objs.size + 1) scope.names (cloFrom X.env.cells scope.names [])) s.heap.objs.size X.env) fp) [] (wipe σ (own.map (·.2))) H { s with heap := pushCells (s.heap.push { cls := .type "dict", data := .dict #[] }) scope.names } := by
  have hfree : ∀ y ∈ scope.names, y.2 = .free → ∃ c, X.env.cells.lookup y.1 = some c := fun y hy e => by
    rcases ok.free y hy e with k | k
    · exact I.ok.has _ (.inl k)
    · exact I.ok.has _ (.inr k)
  generalize hcenv : compEnvC scope (cellsFrom (s.heap.objs.size + 1) scope.names (cloFrom X.env.cells scope.names [])) s.heap.objs.size X.env = cenv
  have kp : ∀ b o, s.heap.get? b = some o → (pushCells (s.heap.push { cls := .type "dict", data := .dict #[] }) scope.names).get? b = some o := fun b o e => pushCells_keeps _ _ _ _ (Heap.get?_push_of_some _ e)
  have hL : cenv.locals = s.heap.objs.size := by rw [← hcenv]; rfl
  have hcl : cenv.cells = cellsFrom (s.heap.objs.size + 1) scope.names (cloFrom X.env.cells scope.names []) := by rw [← hcenv]; rfl
  have hsc : cenv.scope = relS scope X.env.scope := by rw [← hcenv]; rfl
  rw [← Heap.size_push s.heap { cls := .type "dict", data := .dict #[] }] at hcl
  have cm : ∀ {y c}, (y, c) ∈ cloFrom X.env.cells scope.names [] → X.env.cells.lookup y = some c ∧ c < s.heap.objs.size := fun {y c} hm => by
    rcases cloFrom_mem hm with hm | ⟨h1, rfl⟩
    · cases hm
    · obtain ⟨c, hc⟩ := hfree _ h1 rfl
      rw [hc]
      obtain ⟨w, z⟩ := I.cell _ _ hc
      exact ⟨rfl, z.lt⟩
  have mem : ∀ {y c}, cenv.cells.lookup y = some c → (X.env.cells.lookup y = some c ∧ c < s.heap.objs.size) ∨ (s.heap.objs.size + 1 ≤ c ∧ CellAt (pushCells (s.heap.push { cls := .type "dict", data := .dict #[] }) scope.names) c none) := fun {y c} e => by
    rw [hcl] at e
    rcases cells_mem (PySem.mem_of_lookup e) with hm | ⟨_, h2, h3⟩
    · exact .inl (cm hm)
    · rw [Heap.size_push] at h2; exact .inr ⟨h2, h3⟩
  have look : ∀ {y}, scope.names.lookup y = some .free → ∃ c, cenv.cells.lookup y = some c ∧ X.env.cells.lookup y = some c := fun {y} hl => by
    have hy : (y, NameKind.free) ∈ scope.names := PySem.mem_of_lookup hl
    obtain ⟨c', e'⟩ := mem_lookup (cells_acc (names := scope.names) (n := (s.heap.push { cls := .type "dict", data := .dict #[] }).objs.size) (cloFrom_has (cells := X.env.cells) (acc := []) hy))
    rw [← hcl] at e'
    refine ⟨c', e', ?_⟩
    rw [hcl] at e'
    rcases cells_mem (PySem.mem_of_lookup e') with hm | ⟨h1, _, _⟩
    · exact (cm hm).1
    · have := ok.uniq _ h1
      rw [hl] at this; cases this
  have okB : (X.blk s H scope cenv fp).Ok := by
    refine ⟨I.ok.mod, by show cenv.scope.kind = _; rw [hsc]; exact ok.kind, by show cenv.globals = _; rw [← hcenv]; exact I.ok.glob, by show cenv.builtins = _; rw [← hcenv]; exact I.ok.blt, by show s.heap.objs.size ≤ cenv.locals; rw [hL]; exact Nat.le_refl _,
      fun y z c e1 e2 => ?_, fun y hy => ?_, fun y c z e => ?_, I.ok.hd, I.ok.frames, .inl rfl, fun b hb => ⟨?_, fun y c e z => ?_⟩, I.bs, Nat.le_trans I.ok.bsz I.sz, fun b o e hb => ?_, fun b hb z => ?_, I.stack, I.stkFree⟩
    · have e1 : cenv.cells.lookup y = some c := e1
      have e2 : cenv.cells.lookup z = some c := e2
      rw [hcl] at e1 e2
      refine cells_inj (fun p hp => ?_) (fun y z c a b => I.ok.inj y z c (cm a).1 (cm b).1) (PySem.mem_of_lookup e1) (PySem.mem_of_lookup e2)
      rw [Heap.size_push]
      exact Nat.lt_succ_of_lt (cm (y := p.1) (c := p.2) hp).2
    · show ∃ c, cenv.cells.lookup y = some c
      have key : ∀ k, cenv.kindOf y = some k → (k = .cell ∨ k = .free) → ∃ c, cenv.cells.lookup y = some c := fun k hk hk' => by
        unfold Env.kindOf at hk
        rw [hsc] at hk
        obtain ⟨k', e, r⟩ := lookup_relS hk
        have : k' = .cell ∨ k' = .free := by
          rcases r with rfl | ⟨rfl, _⟩
          · exact hk'
          · exact .inr rfl
        rcases this with rfl | rfl
        · obtain ⟨c, hm⟩ := cells_has (n := (s.heap.push { cls := .type "dict", data := .dict #[] }).objs.size) (acc := cloFrom X.env.cells scope.names []) (PySem.mem_of_lookup e)
          obtain ⟨c', e'⟩ := mem_lookup hm
          exact ⟨c', by rw [hcl]; exact e'⟩
        · obtain ⟨c, h1, _⟩ := look e
          exact ⟨c, h1⟩
      rcases hy with hy | hy
      · exact key _ hy (.inl rfl)
      · exact key _ hy (.inr rfl)
    · have z : (scope.names.lookup y == some NameKind.cell) = true := z
      have z : scope.names.lookup y = some .cell := by simpa using z
      have e : cenv.cells.lookup y = some c := e
      rw [hcl] at e
      rcases cells_mem (PySem.mem_of_lookup e) with hm | ⟨_, h2, _⟩
      · rcases cloFrom_mem hm with hm | ⟨h1, _⟩
        · cases hm
        · have q := ok.uniq _ h1
          rw [z] at q; cases q
      · rw [Heap.size_push] at h2
        exact Nat.le_of_succ_le h2
    · show b ≠ cenv.locals
      rw [hL]; exact Nat.ne_of_lt (hfp b hb).2
    · have e : cenv.cells.lookup y = some c := e
      rcases mem e with ⟨h1, _⟩ | ⟨h1, _⟩
      · exact (hfp b hb).1.2.2.2.2.1 y c h1 z
      · have h2 : s.heap.objs.size + 1 ≤ b := by rw [← z]; exact h1
        exact absurd (Nat.lt_of_lt_of_le (hfp b hb).2 (Nat.le_of_succ_le h2)) (Nat.lt_irrefl _)
    · rcases (hfp b hb).1.2.2.2.1 with z | z
      · exact I.ok.noex b o e z
      · exact absurd (Nat.lt_of_lt_of_le (Heap.lt_size e) (Nat.le_trans I.ok.bsz z)) (Nat.lt_irrefl _)
    · rcases List.mem_cons.mp (I.stkSub b z) with z | z
      · exact (hfp b hb).1.2.1 z
      · exact (hfp b hb).1.2.2.1 z
  refine ⟨okB, rfl, I.bare, Un.kept kp, ⟨fun _ => none, ?_, fun i y av e1 e2 e3 => ?_⟩, fun y c e => ?_, ?_, fun y c e => ?_, fun p hp => ?_, I.hok.kept kp, by rw [wipe_length]; exact I.len⟩
  · show Heap.Ns _ cenv.locals _
    rw [hL]
    exact Heap.Ns.keeps (Heap.Ns.new ..) fun b o e => pushCells_keeps _ _ _ _ e
  · obtain ⟨e2, hne⟩ := wipe_some e2
    have hfr : scope.names.lookup y = some .free ∧ (cenv.kindOf y = some .cell ∨ cenv.kindOf y = some .free) := by
      have key : ∀ k, cenv.scope.names.lookup y = some k → k = .local ∨ k = .cell ∨ k = .free → scope.names.lookup y = some .free ∧ (cenv.kindOf y = some .cell ∨ cenv.kindOf y = some .free) := fun k hk hk' => by
        have hk0 := hk
        rw [hsc] at hk
        obtain ⟨k', e, r⟩ := lookup_relS hk
        have no : ¬ (k' = .local ∨ k' = .cell) := fun hh => by
          rcases ok.own _ (PySem.mem_of_lookup e) hh with e' | e'
          · obtain ⟨p, hp, hpy⟩ := List.mem_map.mp e'
            have e3 := ok.ix p hp
            have : p.1 = y := hpy
            rw [this] at e3
            exact hne (List.mem_map.mpr ⟨p, hp, nodup_ix hN e3 e1⟩)
          · exact e' (List.mem_of_getElem? e1)
        rcases r with rfl | ⟨rfl, rfl⟩
        · rcases hk' with rfl | rfl | rfl
          · exact absurd (.inl rfl) no
          · exact absurd (.inr rfl) no
          · exact ⟨e, .inr hk0⟩
        · exact ⟨e, .inl hk0⟩
      have e3 : Vis cenv.scope y := e3
      rcases e3 with e3 | e3 | e3
      · exact key _ e3 (.inl rfl)
      · exact key _ e3 (.inr (.inl rfl))
      · exact key _ e3 (.inr (.inr rfl))
    obtain ⟨m, hn, hl⟩ := I.loc
    have hvis : Vis X.env.scope y := (ok.free _ (PySem.mem_of_lookup hfr.1) rfl).elim (fun k => .inr (.inl k)) (fun k => .inr (.inr k))
    obtain ⟨w, r, q⟩ := hl i y av e1 e2 hvis
    refine ⟨w, r, .inr ⟨hfr.2, ?_⟩⟩
    obtain ⟨c, h1, h2⟩ := look hfr.1
    rcases q with ⟨k, _⟩ | ⟨_, c', e', z⟩
    · have k : X.env.scope.names.lookup y = some .local := k
      rcases ok.free _ (PySem.mem_of_lookup hfr.1) rfl with k' | k' <;> rw [show X.env.scope.names.lookup y = _ from k'] at k <;> cases k
    · rw [h2] at e'; cases e'
      exact ⟨c, h1, z.keeps kp⟩
  · have e : cenv.cells.lookup y = some c := e
    rcases mem e with ⟨h1, _⟩ | ⟨_, z⟩
    · obtain ⟨w, z⟩ := I.cell y c h1
      exact ⟨w, z.keeps kp⟩
    · exact ⟨_, z⟩
  · show H cenv.locals = none
    rw [hL]; exact I.hok.fresh (Nat.le_refl _)
  · have e : cenv.cells.lookup y = some c := e
    rcases mem e with ⟨h1, _⟩ | ⟨h1, _⟩
    · exact I.freeC y c h1
    · exact I.hok.fresh (Nat.le_of_succ_le h1)
  · exact absurd (show p ∈ ([] : List (Addr × Obj)) ++ [] from hp) (by simp)

/-- an item appended to a tracked list -/
theorem app_ok {E : Value → Shared → Prop} {D : Addr} {xs : List V} {y : V} {v : Value} {Q : Value → Shared → Prop} (I : Inv X pins σ H s) (hD : H D = some (.lst xs)) (hz : xs.length < sizeLine) (r : RelV y v)
    (h : ∀ s', Inv X pins σ (upd H D (.lst (xs ++ [y]))) s' → Q .none s') : wpAny (model X.prog X.w) X.A (call (.builtin "list.append") [.ref D, v]) Q E s := by
  obtain ⟨hz', its, n, ri, e⟩ := I.hok D _ hD
  have hl := ri.length
  refine append_at (hsz := by rw [List.size_toArray]; omega) e fun h' sb ho' => ?_
  refine h { s with heap := h' } (I.write (t' := s.toks) (by rw [hD]; trivial) (.inl rfl) (fun b u hb q => (sb.2 b hb).trans q) ⟨_, ho'⟩ ⟨by rw [List.length_append]; exact hz, its ++ [v], n + 1, ri.append (.cons r .nil), ?_⟩)
  rw [ho']
  simp

/-- a clause's tests -/
def PTs (X : Cx) (ifs : List Expr) (t : TT) : Prop :=
  ∀ (pins : List (Addr × Obj)) (s : Shared) (σ : St) (H : Hp) (Q : Bool → Hp → Prop), Inv X pins σ H s → t σ H Q →
    wpAny (model X.prog X.w) X.A (forIn ifs true fun c r => if r = true then do let ok ← isTrue c X.env (eval c X.env); pure (ForInStep.yield ok) else pure (ForInStep.yield r)) (TP X pins σ Q) X.xe s
def tYes : TT := fun _ H Q => Q true H
theorem pts_nil : PTs X [] tYes := fun _ _ _ H _ I h => wpAny_tests_nil ⟨H, I, h⟩
end

theorem thnF {α : Type} {t : Sem α} {Q Q' : α → Shared → Prop} {M : Model} {A : Around} {E : Value → Shared → Prop} {s : Shared} (h : wpAny M A t Q (fun _ _ => False) s) (hQ : ∀ a s, Q a s → Q' a s) : wpAny M A t Q' E s := wpAny_mono h hQ fun _ _ z => False.elim z

/-- the loop of a list comprehension's block, the target of any form (codeAny_compLoop_tests asks a target that no tuple goes to; statement and proof follow it, PyProof/CompMap.lean:41-61, with the step letOwnedTupleGo kept) -/
theorem compLoop_any {prog : Program} {w : World} {A : Around} {R : Result → Shared → Prop} {s : Shared} {elt target iter : Expr} {ifs : List Expr} {scope : Scope} {pos : Pos} {it acc : Value} {env : Env} (I : Nat → Shared → Prop)
    (turn : ∀ n s, I n s → wpAny (model prog w) A (pyNext it) (fun r s₁ => match r with
      | none => R (.ok .next) s₁
      | some v => wpAny (model prog w) A (letOwnedTupleGo target it v) (fun _ s₁' => wpAny (model prog w) A (assign target env v) (fun _ s₂ =>
          wpAny (model prog w) A (forIn ifs true fun c r => if r = true then do let ok ← isTrue c env (eval c env); pure (ForInStep.yield ok) else pure (ForInStep.yield r)) (fun ok s₃ =>
            if ok = true then wpAny (model prog w) A (eval elt env) (fun x s₄ =>
              wpAny (model prog w) A (call (.builtin "list.append") [acc, x]) (fun _ s₅ => ∃ m, m < n ∧ I m s₅) (notedBy (model prog w) A env fun e s' => R (.error e) s') s₄) (notedBy (model prog w) A env fun e s' => R (.error e) s') s₃
            else ∃ m, m < n ∧ I m s₃) (notedBy (model prog w) A env fun e s' => R (.error e) s') s₂) (notedBy (model prog w) A env fun e s' => R (.error e) s') s₁') (notedBy (model prog w) A env fun e s' => R (.error e) s') s₁) (notedBy (model prog w) A env fun e s' => R (.error e) s') s)
    (n : Nat) (h : I n s) :
    codeAny (model prog w) A (.compLoop (.ListComp elt [⟨target, iter, ifs, 0⟩] scope pos) 0 it acc env) R s := by
  refine codeAny_loop rfl I (fun n s hI => ?_) n h
  show wpAny _ A ((compTurn (.ListComp elt [⟨target, iter, ifs, 0⟩] scope pos) 0 it acc env).onRaise (fun x => do noteFrame x env; theTreesLotGoes x)) _ _ s
  refine wpAny_noted ?_
  rw [compTurn_list]
  refine wpAny_bind (wpAny_standAt (wpAny_bind (wpAny_mono (turn n s hI) (fun r s₁ h₁ => ?_) fun _ _ h' => h')))
  cases r with
  | none => exact wpAny_pure h₁
  | some v =>
    refine wpAny_bind (wpAny_mono h₁ (fun _ s₁' h₁' => ?_) fun _ _ h' => h')
    refine wpAny_bind (wpAny_mono h₁' (fun _ s₂ h₂ => wpAny_bind (wpAny_mono h₂ (fun ok s₃ h₃ => ?_) fun _ _ h' => h')) fun _ _ h' => h')
    cases ok with
    | false => exact wpAny_pure ⟨rfl, h₃⟩
    | true =>
      exact wpAny_bind (wpAny_bind (wpAny_mono h₃ (fun x s₄ h₄ => wpAny_bind (wpAny_mono h₄ (fun _ s₅ h₅ => wpAny_pure (wpAny_pure ⟨rfl, h₅⟩)) fun _ _ h' => h')) fun _ _ h' => h'))

section
variable {X : Cx}
/-- [elt for target in iter if ..]: D the new list; W by the turn and a measure, Nx what a turn is to reach -/
def tLc (wi : TI) (g : TG) (tt : TT) (te : TE) (vs : List Nat) : TE := fun σ H Q => wi σ H fun J H1 => ∀ D, H1 D = none → ∃ W : Nat → Nat → Hp → Prop, (∃ m, W 0 m (upd H1 D (.lst []))) ∧ ∀ i m H, W i m H →
  (J.stop i H ∧ Q (.ref D) H) ∨ (J.go i H ∧ ∃ Nx : Hp → Prop, (∀ H', Nx H' → ∃ m', m' < m ∧ W (i + 1) m' H') ∧ ∀ x H', J.yld i H x H' → g x (wipe σ vs) H' fun σ2 H2 => wipe σ2 vs = wipe σ vs ∧ tt σ2 H2 fun b H3 =>
    if b = true then te σ2 H3 fun y H4 => ∃ acc, H4 D = some (.lst acc) ∧ acc.length < sizeLine ∧ Nx (upd H4 D (.lst (acc ++ [y]))) else Nx H3)
theorem lc_core {pins : List (Addr × Obj)} {s : Shared} {σ : St} {H : Hp} {Q : VK} {elt tg iter : Expr} {ifs : List Expr} {scope : Scope} {own : List (Str × Nat)} {pos pos' : Pos} {wi : TI} {g : TG} {tt : TT} {te : TE} {use : Option (Value → Sem Unit)} {Qf : Value → Shared → Prop}
    (hc : X.calm = true) (hN : X.N.Nodup) (I : Inv X pins σ H s) (hi : PI X tg iter wi) (ok : BlkOk X.N X.env.scope scope own)
    (hg : ∀ (s : Shared) (H : Hp) (C : Addr) (cl : List (Str × Addr)) (fp : List Addr), PG (X.blk s H scope (compEnvC scope cl C X.env) fp) tg g) (ht : ∀ (s : Shared) (H : Hp) (C : Addr) (cl : List (Str × Addr)) (fp : List Addr), PTs (X.blk s H scope (compEnvC scope cl C X.env) fp) ifs tt)
    (he : ∀ (s : Shared) (H : Hp) (C : Addr) (cl : List (Str × Addr)) (fp : List Addr), PE (X.blk s H scope (compEnvC scope cl C X.env) fp) elt te) (hs : ∀ x, foldedSetIterable iter X.env x = pure x)
    (h : tLc wi g tt te (own.map (·.2)) σ H Q)
    (hRR : ∀ D C s' m H', Inv X pins σ H' s' → Q (.ref D) H' → s'.heap.Ns C m → FpOk X pins H' C → compPost (model X.prog X.w) X.A X.xe use Qf (.ref D) C (.ok .next) s') :
    wpAny (model X.prog X.w) X.A (comprehension (.ListComp elt [⟨tg, iter, ifs, 0⟩] scope pos) scope X.env pos' (newList []) false (eval iter X.env) use) Qf X.xe s := by
  have hfree : ∀ y ∈ scope.names, y.2 = .free → ∃ c, X.env.cells.lookup y.1 = some c := fun y hy e => by
    rcases ok.free y hy e with k | k
    · exact I.ok.has _ (.inl k)
    · exact I.ok.has _ (.inr k)
  refine wpAny_comprehension_free (use := use) rfl hs (closure_ok hfree) ok.kind (fun y hy e => by rw [ok.uniq y hy, e])
    (thn (hi pins s σ H _ I h) fun xv s1 hx => thn hx fun itv s2 h2 => ?_)
  obtain ⟨it, fp, tn, J, H2, e, I2, T, st2, f2, q⟩ := h2
  subst e
  refine wpAny_newObj_type (newEnv_comp ?_) (by show 0 ≤ sizeLine; decide)
  generalize hD : s2.heap.objs.size = D
  have hDn : H2 D = none := I2.hok.fresh (Nat.le_of_eq hD)
  obtain ⟨W, ⟨m0, w0⟩, turn⟩ := q D hDn
  -- the new list
  generalize hs3 : ({ s2 with heap := s2.heap.push { cls := .type "list", data := .seq ([] : List Value).toArray } } : Shared) = s3
  have I3 : Inv X pins σ (upd H2 D (.lst [])) s3 := by
    rw [← hs3]
    refine I2.laid (t' := s2.toks) (fun b o e => Heap.get?_push_of_some _ e) (Nat.le_of_eq hD) ⟨Nat.zero_le _, [], 0, .nil, ?_⟩
    rw [← hD]
    exact Heap.get?_push_size _ rfl
  have h3 : s3.heap = s2.heap.push { cls := .type "list", data := .seq ([] : List Value).toArray } := by rw [← hs3]
  have sz : ∀ b ∈ fp, b < s2.heap.objs.size := fun b hb => by
    obtain ⟨o, e, _⟩ := T.obj _ _ st2 b hb
    exact Heap.lt_size e
  have f3 : ∀ b ∈ fp, FpOk X pins (upd H2 D (.lst [])) b ∧ b < s3.heap.objs.size := fun b hb => by
    have hlt := sz b hb
    refine ⟨⟨?_, (f2 b hb).2⟩, by rw [h3, Heap.size_push]; exact Nat.lt_succ_of_lt hlt⟩
    rw [upd_ne (by rw [← hD]; exact Nat.ne_of_lt hlt)]
    exact (f2 b hb).1
  have st3 : tn 0 s3.heap := T.keep _ _ _ st2 fun b _ o e => by rw [h3]; exact Heap.get?_push_of_some _ e
  have I4 := block_start I3 ok hN f3
  have pg := hg s3 (upd H2 D (.lst [])) s3.heap.objs.size (cellsFrom (s3.heap.objs.size + 1) scope.names (cloFrom X.env.cells scope.names [])) fp
  have pt := ht s3 (upd H2 D (.lst [])) s3.heap.objs.size (cellsFrom (s3.heap.objs.size + 1) scope.names (cloFrom X.env.cells scope.names [])) fp
  have pe := he s3 (upd H2 D (.lst [])) s3.heap.objs.size (cellsFrom (s3.heap.objs.size + 1) scope.names (cloFrom X.env.cells scope.names [])) fp
  show codeAny _ _ (.compStart (.ListComp elt [⟨tg, iter, ifs, 0⟩] scope pos) 0 (.ref it) (.ref D) (compEnvC scope (cellsFrom (s3.heap.objs.size + 1) scope.names (cloFrom X.env.cells scope.names [])) s3.heap.objs.size X.env)) (compPost (model X.prog X.w) X.A X.xe use Qf (.ref D) s3.heap.objs.size) { s3 with heap := pushCells (s3.heap.push { cls := .type "dict", data := .dict #[] }) scope.names }
  have nfp : ∀ b ∈ fp, (upd H2 D (.lst [])) b = none := fun b hb => (f3 b hb).1.1
  generalize hce : compEnvC scope (cellsFrom (s3.heap.objs.size + 1) scope.names (cloFrom X.env.cells scope.names [])) s3.heap.objs.size X.env = ce at I4 pg pt pe ⊢
  have cL : ce.locals = s3.heap.objs.size := by subst hce; rfl
  generalize hH3 : upd H2 D (.lst []) = H3 at I3 I4 pg pt pe w0 nfp f3
  generalize hs4 : ({ s3 with heap := pushCells (s3.heap.push { cls := .type "dict", data := .dict #[] }) scope.names } : Shared) = s4 at I4 ⊢
  have st4 : tn 0 s4.heap := T.keep _ _ _ st3 fun b _ o e => by rw [← hs4]; exact pushCells_keeps _ _ _ _ (Heap.get?_push_of_some _ e)
  have stat : ∀ {σ' : St} {H' : Hp} {s' : Shared}, Inv (X.blk s3 H3 scope ce fp) [] σ' H' s' → (∀ b ∈ fp, H' b = none) → ∀ b ∈ fp, FpOk (X.blk s3 H3 scope ce fp) [] H' b := fun {σ' H' s'} I' hn b hb =>
    ⟨hn b hb, (I'.ok.exf b hb).1, I'.ok.exfs b hb, .inl hb, fun x c e => (I'.ok.exf b hb).2 x c e, fun p hp => absurd (show p ∈ ([] : List (Addr × Obj)) ++ [] from hp) (by simp)⟩
  have loop : codeAny (model X.prog X.w) X.A (.compLoop (.ListComp elt [⟨tg, iter, ifs, 0⟩] scope pos) 0 (.ref it) (.ref D) ce) (compPost (model X.prog X.w) X.A X.xe use Qf (.ref D) s3.heap.objs.size) s4 := by
    refine compLoop_any (fun n s' => ∃ i H', Inv (X.blk s3 H3 scope ce fp) [] (wipe σ (own.map (·.2))) H' s' ∧ tn i s'.heap ∧ (∀ b ∈ fp, H' b = none) ∧ W i n H') ?_ m0 ⟨0, H3, I4, st4, nfp, w0⟩
    rintro n s5 ⟨i, H5, I5, st5, n5, w5⟩
    rcases turn i n H5 w5 with ⟨stop, qq⟩ | ⟨go, Nx, hNx, step⟩
    · have td := T.done (X.blk s3 H3 scope ce fp) rfl rfl rfl hc i [] s5 _ H5 (fun _ _ => False) I5 (stat I5 n5) st5 stop
      refine thnF td fun r s6 ⟨hr, I6⟩ => ?_
      subst hr
      -- back in the def's context
      have I7 : Inv X pins σ H5 s6 := I3.call' (ch := fp) I6.os I6.base I6.hok I6.bare fun b hb => ⟨(f3 b hb).1.2.2.2.1, (f3 b hb).1.2.1, (f3 b hb).1.2.2.2.2.1, (f3 b hb).1.2.2.2.2.2⟩
      have nC : H5 s3.heap.objs.size = none := by
        have z : H5 ce.locals = none := I6.free
        rw [cL] at z
        exact z
      obtain ⟨m, hn, _⟩ := I6.loc
      have hn : s6.heap.Ns ce.locals m := hn
      rw [cL] at hn
      exact hRR D s3.heap.objs.size s6 m H5 I7 qq hn (I3.fpOk (Nat.le_refl _) nC)
    · have ti := T.item (X.blk s3 H3 scope ce fp) rfl rfl rfl hc i [] s5 _ H5 (fun _ _ => False) I5 (stat I5 n5) st5 go
      refine thnF ti fun r s6 ⟨u, hr, h6⟩ => ?_
      subst hr
      refine thnF h6 fun _ s7 ⟨x, H7, I7, r7, y7, st7, n7⟩ => ?_
      have I7' := I7.pinned (stat I7 n7) (T.obj _ _ st7)
      refine thnF (pg _ s7 _ H7 x u _ I7' r7 (step x H7 y7)) fun _ s8 ⟨σ8, H8, I8, hw8, q8⟩ => ?_
      refine thnF (pt _ s8 σ8 H8 _ I8 q8) fun b s9 ⟨H9, I9, q9⟩ => ?_
      -- the turn's end
      have fin : ∀ {s' : Shared} {H' : Hp}, Inv (X.blk s3 H3 scope ce fp) ([] ++ pinsAt fp s7.heap) σ8 H' s' → Nx H' → ∃ m, m < n ∧ ∃ i H', Inv (X.blk s3 H3 scope ce fp) [] (wipe σ (own.map (·.2))) H' s' ∧ tn i s'.heap ∧ (∀ b ∈ fp, H' b = none) ∧ W i m H' := fun {s' H'} I' nx => by
        obtain ⟨m', hm, w'⟩ := hNx H' nx
        have pin' : ∀ b ∈ fp, ∀ o, s7.heap.get? b = some o → s'.heap.get? b = some o ∧ H' b = none := fun b hb o e =>
          let z := I'.pin (b, o) (List.mem_append_right _ (List.mem_append_right _ (mem_pinsAt hb e)))
          ⟨z.1, z.2.1⟩
        have hl : (wipe σ (own.map (·.2))).length = σ8.length := by rw [← hw8, wipe_length]
        refine ⟨m', hm, i + 1, H', (I'.unpinned (pins := [])).weak hl (fun j v e => ?_), T.keep _ _ _ st7 fun b hb o e => (pin' b hb o e).1, fun b hb => ?_, w'⟩
        · rw [← hw8] at e
          exact (wipe_some e).1
        · obtain ⟨o, e, _⟩ := T.obj _ _ st7 b hb
          exact (pin' b hb o e).2
      cases b with
      | false =>
        simp only [Bool.false_eq_true, if_false] at q9 ⊢
        exact fin I9 q9
      | true =>
        simp only [if_true] at q9 ⊢
        refine thnF (pe _ s9 σ8 H9 _ I9 q9) fun z s10 ⟨yv, H10, I10, r10, acc, hD10, hz10, nx⟩ => ?_
        exact app_ok (X := X.blk s3 H3 scope ce fp) I10 hD10 hz10 r10 fun s11 I11 => fin I11 nx
  exact codeAny_compStart_list loop (T.self X.A 0 _ _ _ st4 loop)
/-- as a value -/
theorem pe_lc {elt tg iter : Expr} {ifs : List Expr} {scope : Scope} {own : List (Str × Nat)} {pos : Pos} {wi : TI} {g : TG} {tt : TT} {te : TE} (hc : X.calm = true) (hN : X.N.Nodup) (hi : PI X tg iter wi) (ok : BlkOk X.N X.env.scope scope own)
    (hg : ∀ (s : Shared) (H : Hp) (C : Addr) (cl : List (Str × Addr)) (fp : List Addr), PG (X.blk s H scope (compEnvC scope cl C X.env) fp) tg g) (ht : ∀ (s : Shared) (H : Hp) (C : Addr) (cl : List (Str × Addr)) (fp : List Addr), PTs (X.blk s H scope (compEnvC scope cl C X.env) fp) ifs tt)
    (he : ∀ (s : Shared) (H : Hp) (C : Addr) (cl : List (Str × Addr)) (fp : List Addr), PE (X.blk s H scope (compEnvC scope cl C X.env) fp) elt te) (hs : ∀ x, foldedSetIterable iter X.env x = pure x := by intro _; rfl) :
    PE X (.ListComp elt [⟨tg, iter, ifs, 0⟩] scope pos) (tLc wi g tt te (own.map (·.2))) := by
  intro pins s σ H Q I h
  rw [eval_ListComp]
  refine lc_core hc hN I hi ok hg ht he hs h fun D C s' m H' I' q hn f => ⟨m, hn, fun h'' sb => ?_⟩
  obtain ⟨f0, f1, f2, f3, f4, f5⟩ := f
  exact ⟨.ref D, H', I'.turned (t' := s'.toks) (fun b o hb e => (sb.2 b hb).trans e) f0 f1 f3 f4 f5, rfl, q⟩
end

/-! ### the forms one uses -/
/-- over a list that the block leaves as it is -/
theorem lc_list {K : PySem.W.Frag} {a : Addr} {xs : List V} {g : TG} {tt : TT} {te : TE} {vs : List Nat} {σ : St} {H1 : Hp} {D : Addr} {Qd : Hp → Prop} (Pv : Nat → Hp → Prop) (h0 : Pv 0 (upd H1 D (.lst []))) (hl : ∀ i H, i ≤ xs.length → Pv i H → SqL K H a xs)
    (hs : ∀ i x H, xs[i]? = some x → Pv i H → g x (wipe σ vs) H fun σ2 H2 => wipe σ2 vs = wipe σ vs ∧ tt σ2 H2 fun b H3 =>
      if b = true then te σ2 H3 fun y H4 => ∃ acc, H4 D = some (.lst acc) ∧ acc.length < sizeLine ∧ Pv (i + 1) (upd H4 D (.lst (acc ++ [y]))) else Pv (i + 1) H3) (hd : ∀ H, Pv xs.length H → Qd H) :
    ∃ W : Nat → Nat → Hp → Prop, (∃ m, W 0 m (upd H1 D (.lst []))) ∧ ∀ i m H, W i m H →
      ((Itl K a).stop i H ∧ Qd H) ∨ ((Itl K a).go i H ∧ ∃ Nx : Hp → Prop, (∀ H', Nx H' → ∃ m', m' < m ∧ W (i + 1) m' H') ∧ ∀ x H', (Itl K a).yld i H x H' → g x (wipe σ vs) H' fun σ2 H2 => wipe σ2 vs = wipe σ vs ∧ tt σ2 H2 fun b H3 =>
        if b = true then te σ2 H3 fun y H4 => ∃ acc, H4 D = some (.lst acc) ∧ acc.length < sizeLine ∧ Nx (upd H4 D (.lst (acc ++ [y]))) else Nx H3) := by
  refine ⟨fun i m H => m = xs.length - i ∧ i ≤ xs.length ∧ Pv i H, ⟨xs.length, by simp, Nat.zero_le _, h0⟩, ?_⟩
  rintro i m H ⟨rfl, hi, p⟩
  have q := hl i H hi p
  by_cases hlt : i < xs.length
  · refine .inr ⟨⟨xs, xs[i], q, by simp [hlt]⟩, Pv (i + 1), fun H' p' => ⟨xs.length - (i + 1), by omega, rfl, hlt, p'⟩, fun x H' y => ?_⟩
    obtain ⟨e, y⟩ := y
    subst e
    exact hs i x _ (y xs q) p
  · have e : i = xs.length := by omega
    subst e
    exact .inl ⟨⟨xs, q, Nat.le_refl _⟩, hd H p⟩
end L2

namespace L2
open PySem PySem.Spec PyProof.Rows

section
variable {prog : Program} {w : World} {A : Around} {R : Result → Shared → Prop} {s : Shared} {elt t0 i0 t1 i1 : Expr} {ifs0 ifs1 : List Expr} {scope : Scope} {pos : Pos} {it acc : Value} {env : Env}
end

section
variable {X : Cx}
end
end L2

namespace L2
open PySem PySem.Spec PyProof.Rows

/-! ### lists of pairs as tables -/
section
variable {κ : Type} [DecidableEq κ]
end


/-! ### a tracked dict, its keys ints and texts or tuples of these -/
section
variable {P : Program} {w : World} {H : Hp} {h : Heap} {a : Addr}
end

section
variable {X : Cx} {pins : List (Addr × Obj)} {σ : St} {H : Hp} {s : Shared} {a : Addr} {y v : V} {u r : Value} {o : Option V} {A : Around} {E : Value → Shared → Prop}

end

section
variable {X : Cx} {pins : List (Addr × Obj)} {σ : St} {H : Hp} {s : Shared} {a : Addr} {kvs : List (Key × V)} {k : Key} {u : Value} {A : Around} {E : Value → Shared → Prop}
end


/-! ### readings and rules -/
section
variable {X : Cx} {o i e value : Expr} {pos pos' tpos : Pos} {td ty tv : TE}
end


/-! ### displays -/
section
variable {X : Cx} {pos : Pos}
end

/-! ### methods -/
section
variable {X : Cx} {pins : List (Addr × Obj)} {σ : St} {H : Hp} {s : Shared} {a : Addr} {y d : V} {u r : Value} {o : Option V} {A : Around} {E : Value → Shared → Prop}
end

section
variable {X : Cx} {o e f : Expr} {apos cpos : Pos} {td ty tx : TE}
end

/-! ### dict(d): a copy -/
section
variable {X : Cx} {pins : List (Addr × Obj)} {σ : St} {H : Hp} {s : Shared} {a : Addr} {kvs : List (Key × V)} {A : Around} {E : Value → Shared → Prop}
end


section
variable {X : Cx} {pins : List (Addr × Obj)} {σ : St} {H : Hp} {s : Shared} {a : Addr} {y : V} {u : Value} {A : Around} {E : Value → Shared → Prop}
end
end L2

namespace L2
open PySem PySem.Spec PyProof.Rows

section
variable {prog : Program} {w : World} {A : Around} {E : Value → Shared → Prop}
end

section
variable {X : Cx}
end
end L2

namespace L2
open PySem PySem.Spec PyProof.Rows

section
variable {X : Cx} {pins : List (Addr × Obj)} {σ : St} {H : Hp} {s : Shared} {h' : Heap}
/-! ### locking a thing while a statement runs -/
end
section
variable {X : Cx}
/-! ### one iterator just laid -/
theorem pi_one {tg : Expr} {pins : List (Addr × Obj)} {σ : St} {H : Hp} {s : Shared} {R : It → Hp → Prop} {J : It} {tn : Nat → Heap → Prop} {tk : Nat} (I : Inv X pins σ H s) (o : Obj)
    (T : Turn X.prog X.w X.K tg J [s.heap.objs.size] s.heap.objs.size tn) (st : tn 0 (s.heap.push o)) (q : R J H) : PIE X pins σ tg R (.ref s.heap.objs.size) { s with heap := s.heap.push o, toks := tk } := by
  refine ⟨s.heap.objs.size, [s.heap.objs.size], tn, J, H, rfl, I.kept fun b ob e => Heap.get?_push_of_some _ e, T, st, fun b hb => ?_, q⟩
  have e : b = s.heap.objs.size := by simpa using hb
  subst e
  exact I.fpOk (Nat.le_refl _) (I.hok.fresh (Nat.le_refl _))
end

/-! ### range with a step -/
/-- lo, lo + c, .. (n of them) -/
def Itc (lo c : Int) (n : Nat) : It := ⟨fun i _ => i < n, fun i H x H' => H' = H ∧ x = .int (lo + (i : Nat) * c), fun i _ => n ≤ i⟩
theorem turn_rangeC {P : Program} {w : World} {K : PySem.W.Frag} {tg : Expr} (it : Addr) (lo c : Int) (n : Nat) : Turn P w K tg (Itc lo c n) [it] it (fun i h => IsRangeIter h it (lo + (i : Nat) * c) ((n : Int) - (i : Nat)) c) where
  mem := by simp
  obj := fun i h st b hb => by
    have e : b = it := by simpa using hb
    subst e
    exact ⟨_, st, fun v z => nomatch z⟩
  keep := fun i h h' st k => k it (by simp) _ st
  item := by
    intro X hP hw hK hc i pins s σ H E I hf st hg
    subst hP hw hK
    obtain ⟨f0, f1, f2, f3, f4, f5⟩ := hf it (by simp)
    have W := Walks.range (prog := X.prog) (w := X.w) (I.ok.hd hc) it lo c n
    refine W.item i s _ _ hg st fun v h' tk hv st' kk => ?_
    obtain ⟨t, rfl⟩ := hv
    have I1 : Inv X pins σ H { s with heap := h', toks := tk } := I.turned (fun b o hb e => kk b o (by simpa using hb) e) f0 f1 f3 f4 f5
    exact ⟨_, rfl, go_of (s := { s with heap := h', toks := tk }) (n := "range_iterator") st' rfl rfl (by decide) ⟨.int (lo + (i : Nat) * c), H, I1, ⟨t, rfl⟩, ⟨rfl, rfl⟩, st', fun b hb => (hf b hb).1⟩⟩
  done := by
    intro X hP hw hK hc i pins s σ H E I hf st hg
    subst hP hw hK
    obtain ⟨f0, f1, f2, f3, f4, f5⟩ := hf it (by simp)
    exact wpAny_pyNext_range_end (I.ok.hd hc) st (by have : n ≤ i := hg; omega) fun h' eb => ⟨rfl, I.turned (t' := s.toks) (fun b o hb e => eb b o hb e) f0 f1 f3 f4 f5⟩
  self := fun A i s Q E st h => wpAny_pyIter_rangeiter st h
/-- range(i, j, c): small bounds, n items -/
def RgC (i j c : Int) (n : Nat) : Prop := c ≠ 0 ∧ c.natAbs < 1073741824 ∧ Builtin.Range.small i j c = true ∧ Builtin.Range.rangeSize i j c = n
def iRng3 (ta : TA) : TI := fun σ H R => ta σ H fun vs H1 => ∃ (i j c : Int) (n : Nat), vs = [.int i, .int j, .int c] ∧ RgC i j c n ∧ R (Itc i c n) H1
section
variable {X : Cx} {tg : Expr}
theorem pi_range3 {a b c : Expr} {ta : TA} {p pos : Pos} (hg : Gl X "range") (hm : X.mg "range" = none) (ha : PA X [a, b, c] ta)
    (hs : starEach [a, b, c] X.env = (false, eval a X.env) :: starEach [b, c] X.env := by rfl) (hpl : (backTo pos (starEach [b, c] X.env)).any (·.1) = false := by rfl) :
    PI X tg (.Call (.Name "range" p) [a, b, c] [] pos) (iRng3 ta) := by
  intro pins s σ H R I h
  refine Call_ (ld_blt I hg hm boot_range (PyProof.Rows.callWith_type1 (thn (ha pos pins s σ H _ I h) fun us s1 ⟨vs, H1, I1, r1, q1⟩ => ?_) hs hpl))
  obtain ⟨i, j, k, n, e, ⟨c0, c1, c2, c3⟩, q⟩ := q1
  subst e
  cases r1 with
  | cons r rr =>
    cases rr with
    | cons r' rr =>
      cases rr with
      | cons r'' rr =>
        cases rr
        obtain ⟨t, rfl⟩ := r
        obtain ⟨t', rfl⟩ := r'
        obtain ⟨t'', rfl⟩ := r''
        refine call_range_3 c0 ?_ (.inl (PyProof.noPylong_small c1))
        refine wpAny_pyIter_range (IsRange.new ..) c2 ?_
        have I2 : Inv X pins σ H1 { s1 with heap := s1.heap.push { cls := .type "range", data := .fields #[.int i t, .int j t', .int k t''] } } := I1.kept (t' := s1.toks) fun b o e => Heap.get?_push_of_some _ e
        refine pi_one (tk := s1.toks) I2 _ (turn_rangeC _ i k n) ?_ q
        have e1 : i + ((0 : Nat) : Int) * k = i := by simp
        have e2 : (n : Int) - ((0 : Nat) : Int) = Builtin.Range.rangeSize i j k := by rw [c3]; simp
        show IsRangeIter _ _ (i + ((0 : Nat) : Int) * k) ((n : Int) - ((0 : Nat) : Int)) k
        rw [e1, e2]
        exact Heap.get?_push_size _ rfl
end
/-- the turns of a step range, for the for loop -/
theorem for_rangeC {lo c : Int} {n : Nat} {g : TG} {tb : TS} {D : Ends} {σ : St} {H : Hp} (Pv : Nat → St → Hp → Prop) (h0 : Pv 0 σ H)
    (hs : ∀ i σ H, i < n → Pv i σ H → g (.int (lo + (i : Nat) * c)) σ H fun σ2 H2 => tb { D with nx := Pv (i + 1), ct := Pv (i + 1), bk := D.nx } σ2 H2) (hd : ∀ σ H, Pv n σ H → D.nx σ H) :
    ∃ W : Nat → Nat → St → Hp → Prop, (∃ m, W 0 m σ H) ∧ ∀ i m σ H, W i m σ H →
      ((Itc lo c n).stop i H ∧ D.nx σ H) ∨ ((Itc lo c n).go i H ∧ ∃ N : St → Hp → Prop, (∀ σ' H', N σ' H' → ∃ m', m' < m ∧ W (i + 1) m' σ' H') ∧ ∀ x H', (Itc lo c n).yld i H x H' → g x σ H' fun σ2 H2 => tb { D with nx := N, ct := N, bk := D.nx } σ2 H2) := by
  refine ⟨fun i m σ H => m = n - i ∧ i ≤ n ∧ Pv i σ H, ⟨n, by simp, Nat.zero_le _, h0⟩, ?_⟩
  rintro i m σ H ⟨rfl, hi, p⟩
  by_cases hlt : i < n
  · refine .inr ⟨hlt, Pv (i + 1), fun σ' H' p' => ⟨n - (i + 1), by omega, rfl, hlt, p'⟩, fun x H' y => ?_⟩
    obtain ⟨e, y⟩ := y
    subst e y
    exact hs i σ _ hlt p
  · have e : i = n := by omega
    subst e
    exact .inl ⟨Nat.le_refl _, hd σ H p⟩

/-! ### reversed(list) -/
section
variable {X : Cx} {tg : Expr}
end

/-! ### a str -/
/-! ### a dict's keys: any dict's entries -/
section
variable {prog : Program} {w : World} {A : Around} {E : Value → Shared → Prop} {s : Shared}
end

/-! ### a locked dict -/
section
variable {X : Cx} {pins : List (Addr × Obj)} {σ : St} {H : Hp} {s : Shared} {d : Addr} {o : Obj}
end

section
variable {P : Program} {w : World} {K : PySem.W.Frag} {tg : Expr} {d : Addr} {o : Obj} {es : Array DictEntry} {ep : Nat}
end

/-! ### for k in d, d.keys(), d.values(), d.items() -/
section
variable {X : Cx} {tg e : Expr} {td : TE} {apos cpos : Pos}
end

/-! ### enumerate(list) -/
/-! ### zip(list, list) -/
end L2

section 
namespace Bits
open PySem PyProof.Rows

end Bits
end 

section 
namespace TL
open PySem PySem.Builtin PySem.Builtin.Str PySem.StrLaws

/-! ### the list functions -/
/-! ### the model's split and partition are these -/
/-! ### computing spl and par -/
/-! ### digits -/
/-! ### words: x.split() -/
end TL
end 

namespace L2
open PySem PySem.Spec PyProof.Rows

section
variable {X : Cx} {pins : List (Addr × Obj)} {σ : St} {H : Hp} {s : Shared} {Q : VK}
end

section
variable {X : Cx}

/-! ### of a text alone -/
/-! ### of a text and a text -/
end

section
variable {X : Cx} {o e : Expr} {to te : TE}
end
end L2

namespace L2
open PySem PySem.Spec PyProof.Rows

section
variable {X : Cx}
end

/-! ### slices of a text -/
end L2

namespace Att
open PySem PySem.W PySem.Calls PyProof.Rows

/-! ### the script -/
/-! ### the attachment: holds_open's last premise (the goal 'hc' behind k_head) from a wpAny of the law's body -/
/-! ### rules over ANY heap (no ledger) from facts about the written part K: the library's own take a ledger (News) for what they write -/
section
variable {prog : Program} {w : World} {A : Around} {E : Value → Shared → Prop} {s : Shared} {K : Frag}

/-! the whole heap as the ledger: makes every rule that writes through a ledger a rule over any heap -/
end
end Att

namespace L2
open PySem PySem.Spec PyProof.Rows

end L2

namespace L2
open PySem PySem.Spec PyProof.Rows

end L2

/- THE LAST THEOREM (shape; LID, My.* are yours):
   My.Adr: a structure of the addresses that your layer names (classes, functions); My.Txt K t: a structure (Prop) of the equations over K;
   My.txt_mk : {K} {implicit addresses ..} (e1 : nsIn K mainGlobals "law" = some (some (.ref f))) (e2 : K.lookup f = some ⟨oc, od, .func (fnOf "law" "law" params body scope dV kV doc pm an cdv ct), sl⟩) (e3 : codeIn K cdv "law" = true) .. : ∃ t, My.Txt K t

set_option maxRecDepth 100000 in
set_option maxHeartbeats 0 in
theorem PySem.Challenge.cw_LID_holds : PySem.Challenge.rw_LID.Holds := by
  w_on; o_law; k_head; (case hw => w_witness2)
  k_fill
  refine L2.walk_of (l := PySem.Challenge.rw_LID) (n := 63) (k := 40) (x := "script") (CX := fun w => ..) (sp := fun _ => My.sp_law) rfl (by decide) rfl ⟨rfl, by decide, by decide⟩ (fun w h Y => PySem.W.kIn_of Y) ?F ?S ?C
  case F =>
    intro w mg fa h KX G hmg
    have T : ∃ t, My.Txt (L2.KOf KX) t := by
      dsimp only [L2.KOf]                          -- K must stand as «<heap const> w.params» for k_is
      refine' My.txt_mk ?e1 ?e2 ?e3 ..
      (case e1 => PySem.W.k_is)                    -- in the order: a name -> its address -> its object -> its parts
      (case e2 => PySem.W.k_is)
      ..
    obtain ⟨t, T⟩ := T
    have e0 := hmg.symm.trans (PySem.W.mg_of KX G T.law)
    cases e0                                       -- fa is the law's own address
    exact ⟨_, fun s u => .of_eq rfl, fun base kb nb => My.law_fn T kb nb⟩     -- if «.of_eq rfl» comes too early: refine' ⟨_, ?b, fun base kb nb => My.law_fn T kb nb⟩; exact fun s u => .of_eq rfl
  case S => exact fun w H a ns hl hO hS => ..
  case C => exact ..
(the tactic k_is has no namespace: write k_is) -/

/-! SHORT WORDS over the layer: a def of the text, its body, what a loop and a test want. -/
namespace L2
open PySem PySem.Spec PyProof.Rows

/-! ### the text by places -/
/-- the j-th statement of a class's body -/
def inClass (s : Stmt) (j : Nat) : Stmt := match s with
  | .ClassDef _ _ _ body _ _ _ _ _ _ _ => body.getD j (.Pass ⟨0, 0, 0, 0⟩)
  | _ => .Pass ⟨0, 0, 0, 0⟩
def defArgs (s : Stmt) : Arguments := match s with
  | .FunctionDef _ a _ _ _ _ _ _ _ _ => a
  | _ => { posonlyargs := [], args := [], vararg := none, kwonlyargs := [], kw_defaults := [], kwarg := none, defaults := [] }
def defBody (s : Stmt) : List Stmt := match s with
  | .FunctionDef _ _ b _ _ _ _ _ _ _ => b
  | _ => []
def defScope (s : Stmt) : Scope := match s with
  | .FunctionDef _ _ _ _ _ _ sc _ _ _ => sc
  | _ => { kind := .function, names := [], isGenerator := false, isCoroutine := false }

/-! ### no exception leaves a def -/
abbrev CX0 : CXT := fun _ _ _ _ _ _ => False
abbrev E0 : XK := fun _ _ _ => False
theorem pass0 {X : Cx} : Passes CX0 X E0 := fun _ _ _ _ _ _ _ h => h.elim

/-! ### a def (or method) of the text as it stands behind the top -/
structure Fun (K : PySem.W.Frag) (x qual : Str) (st : Stmt) (f : Addr) (fd : FuncData) : Prop where
  ex : ∃ (oc : Value) (od : Option Addr) (kV doc pm : Value) (an : Option Addr) (cdv ct : Value) (osl : Array (Option Value)),
    fd = PySem.W.fnOf x qual (defArgs st) (defBody st) (defScope st) .none kV doc pm an cdv ct ∧ K.lookup f = some ⟨oc, od, .func fd, osl⟩ ∧ PySem.W.codeIn K cdv qual = true
  kp : PySem.W.keepIn K (.ref f) = true
section
variable {P : Program} {w : World} {K : PySem.W.Frag} {mg : Str → Option Value} {base : Heap}
/-- THE RULE for a def: its body as a term of rules, and the reading of that term -/
theorem Fun.ok {x qual : Str} {st : Stmt} {f : Addr} {fd : FuncData} {N ps : List Str} {k : Nat} {sp : Sp} (F : Fun K x qual st f fd) (S : FnScope N ps (defScope st)) (len : ∀ vs H Q E, sp vs H Q E → vs.length = ps.length)
    (hbody : ∀ (cdv : Value) (A : Around) (outer : List Env) (s : Shared) (H : Hp) (vs : List V) (Q : VK) (E : XK), Room k (A.deeper (envOfC qual (defScope st) s.heap.objs.size f cdv)) → sp vs H Q E →
      ∃ t, PSs (cxOf CX0 P w K mg base N qual (defScope st) f cdv A outer s H E).nox (defBody st) t ∧ t { nx := fun _ H' => Q .non H', rt := Q } (start N vs) H) : FnOk P w K mg base CX0 (k + 1) f fd ps sp := by
  obtain ⟨oc, od, kV, doc, pm, an, cdv, ct, osl, rfl, lk, hcd⟩ := F.ex
  refine fn_of lk hcd S len fun A outer s H vs Q E hr hsp => ?_
  obtain ⟨t, h, q⟩ := hbody cdv A outer s H vs Q E hr hsp
  exact ⟨t, h.nox, q⟩
/-- how its arguments bind (no defaults): h is «fun _ _ _ _ _ _ us hl => match us, hl with | [_, _], _ => rfl», one _ a parameter -/
theorem Fun.binds {x qual : Str} {st : Stmt} {f : Addr} {fd : FuncData} {ps : List Str} (F : Fun K x qual st f fd)
    (h : ∀ (kV doc pm : Value) (an : Option Addr) (cdv ct : Value) (us : List Value), us.length = ps.length → bindArgs (PySem.W.fnOf x qual (defArgs st) (defBody st) (defScope st) .none kV doc pm an cdv ct) ⟨us, []⟩ = pure (ps.zip us)) : Binds K fd ps [] := by
  obtain ⟨oc, od, kV, doc, pm, an, cdv, ct, osl, rfl, lk, hcd⟩ := F.ex
  exact .all (h kV doc pm an cdv ct)
theorem fun_mk {x qual : Str} {st : Stmt} {f : Addr} {oc : Value} {od an : Option Addr} {osl : Array (Option Value)} {kV doc pm cdv ct : Value} (l : K.lookup f = some ⟨oc, od, .func (PySem.W.fnOf x qual (defArgs st) (defBody st) (defScope st) .none kV doc pm an cdv ct), osl⟩)
    (c : PySem.W.codeIn K cdv qual = true) (k : PySem.W.keepIn K (.ref f) = true) : Fun K x qual st f (PySem.W.fnOf x qual (defArgs st) (defBody st) (defScope st) .none kV doc pm an cdv ct) := ⟨⟨oc, od, kV, doc, pm, an, cdv, ct, osl, rfl, l, c⟩, k⟩
end
theorem hu_of {A : Around} {k : Nat} (hr : Room k A) : A.units + 1 < cLine := Nat.lt_of_le_of_lt (Nat.add_le_add_left (by decide : 1 ≤ 64) _) hr.units
/-! ### expressions in short: the name that stands in the i-th slot -/
section
variable {X : Cx}
theorem pv (i : Nat) {x : Str} {pos : Pos} (hN : X.N[i]? = some x := by rfl) (hv : Vis X.env.scope x := by first | exact Or.inl rfl | exact Or.inr (Or.inl rfl) | exact Or.inr (Or.inr rfl)) (hd : (x == ("__debug__" : Str)) = false := by decide)
    (hcd : (x == ("__classdict__" : Str)) = false := by decide) : PE X (.Name x pos) (tVar i) := pe_var hN hv hd hcd
end

/-! ### tests -/
theorem ite2 {c A B : Prop} [Decidable c] (h1 : c → A) (h2 : ¬ c → B) : if c then A else B := by
  by_cases h : c
  · rw [if_pos h]
    exact h1 h
  · rw [if_neg h]
    exact h2 h
/-! ### heaps -/
/-- all that was tracked is as it was -/
def Same (H H' : Hp) : Prop := ∀ b o, H b = some o → H' b = some o
theorem Same.refl (H : Hp) : Same H H := fun _ _ h => h
theorem Same.trans {H H1 H2 : Hp} (a : Same H H1) (b : Same H1 H2) : Same H H2 := fun c o h => b c o (a c o h)
theorem Same.free {H H' : Hp} (e : Same H H') {l : Addr} (h : H' l = Option.none) : H l = Option.none := by
  cases q : H l with
  | none => rfl
  | some o =>
    rw [e l o q] at h
    cases h
theorem Same.seq {K : PySem.W.Frag} {H H' : Hp} {a : Addr} {xs : List V} (e : Same H H') (h : SqL K H a xs) : SqL K H' a xs := by
  rcases h with (h | ⟨o, h⟩) | h
  · exact .inl (.inl (e _ _ h))
  · exact .inl (.inr ⟨o, e _ _ h⟩)
  · exact .inr h

/-! ### a dict's pairs: keys that differ -/
section
variable {κ : Type} [DecidableEq κ]
end
/-! ### lists -/
end L2
end

section
set_option Elab.async false
set_option linter.all false
set_option maxRecDepth 100000
set_option maxHeartbeats 2000000
namespace L2
open PySem PySem.Spec PyProof.Rows
open PySem.W (WData Codec OpenSpec Well WellAll ReadsW ReadsAllW)
/-! ### an answer as data -/
mutual
/-- x stands for the datum d, lists and tuples all the way -/
inductive Dw (K : PySem.W.Frag) (H : Hp) : V → WData → Prop
  | non : Dw K H .non .none
  | bl (b : Bool) : Dw K H (.bl b) (.bool b)
  | int (i : Int) : Dw K H (.int i) (.int i)
  | str (x : Str) : Dw K H (.str x) (.str x)
  | byt (b : Array UInt8) : Dw K H (.byt b) (.bytes b.toList)
  | lst {a : Addr} {xs : List V} {ds : List WData} : SqL K H a xs → DwAll K H xs ds → Dw K H (.ref a) (.list ds)
  | tup {a : Addr} {xs : List V} {ds : List WData} : SqT K H a xs → DwAll K H xs ds → Dw K H (.ref a) (.tuple ds)
inductive DwAll (K : PySem.W.Frag) (H : Hp) : List V → List WData → Prop
  | nil : DwAll K H [] []
  | cons {v : V} {vs : List V} {d : WData} {ds : List WData} : Dw K H v d → DwAll K H vs ds → DwAll K H (v :: vs) (d :: ds)
end
theorem dw_ints {K : PySem.W.Frag} {H : Hp} : ∀ ns : List Int, DwAll K H (ns.map V.int) (ns.map WData.int)
  | [] => .nil
  | n :: r => .cons (.int n) (dw_ints r)
theorem ints_dw {K : PySem.W.Frag} {H : Hp} : ∀ (ns : List Int) (xs : List V), DwAll K H xs (ns.map WData.int) → xs = ns.map V.int
  | [], xs, h => by
    cases h
    rfl
  | n :: r, xs, h => by
    cases h with
    | cons h1 h2 =>
      cases h1
      rw [ints_dw r _ h2] <;> rfl
section
variable {P : Program} {w : World} {K : PySem.W.Frag} {H : Hp} {h : Heap} {R : PySem.W.WRecords} {cl : Str → Option Addr}
theorem sqL_at {a : Addr} {xs : List V} (hok : HOk P w H h) (KX : K.In h) (q : SqL K H a xs) : ∃ (its : List Value) (o : Obj) (n : Nat), Vals xs its ∧ h.get? a = some o ∧ o.cls = .type "list" ∧ o.data = .seq its.toArray n := by
  rcases q with q | ⟨o, its, n, e, hc, _, hd, _, hv⟩
  · obtain ⟨_, its, n, hv, e⟩ := (show ObjOk P w H h a (.lst xs) from q.ok hok)
    exact ⟨its, _, n, hv, e, rfl, rfl⟩
  · exact ⟨its.toList, o, n, hv, KX _ _ e, hc, by simp [hd]⟩
theorem sqT_at {a : Addr} {xs : List V} (hok : HOk P w H h) (KX : K.In h) (q : SqT K H a xs) : ∃ (its : List Value) (o : Obj) (n : Nat), Vals xs its ∧ h.get? a = some o ∧ o.cls = .type "tuple" ∧ o.data = .seq its.toArray n := by
  rcases q with q | ⟨o, its, n, e, hc, hd, _, hv⟩
  · obtain ⟨_, its, hv, o, e, hc, n, hd⟩ := (show ObjOk P w H h a (.tup xs) from q.ok hok)
    exact ⟨its, o, n, hv, e, hc, hd⟩
  · exact ⟨its.toList, o, n, hv, KX _ _ e, hc, by simp [hd]⟩
mutual
theorem Dw.reads (hok : HOk P w H h) (KX : K.In h) : ∀ (d : WData) (v : V) (u : Value), Dw K H v d → RelV v u → ∃ as, ReadsW R cl h u d as
  | .none, _, _, x, r => by
    cases x
    cases r
    exact ⟨_, ReadsW.none⟩
  | .bool b, _, _, x, r => by
    cases x
    cases r
    exact ⟨_, ReadsW.bool b⟩
  | .int i, _, _, x, r => by
    cases x
    obtain ⟨t, rfl⟩ := r
    exact ⟨_, ReadsW.int i t⟩
  | .str s, _, _, x, r => by
    cases x
    obtain ⟨t, rfl⟩ := r
    exact ⟨_, ReadsW.str s t⟩
  | .bytes b, _, _, x, r => by
    cases x
    obtain ⟨t, rfl⟩ := r
    exact ⟨_, ReadsW.bytes _ t⟩
  | .list ds, _, _, x, r => by
    cases x with
    | lst hs ha =>
      cases r
      obtain ⟨its, o, n, rv, ho, hc, hd⟩ := sqL_at hok KX hs
      obtain ⟨as, hr⟩ := Dw.readsAll hok KX ds _ its ha rv
      exact ⟨_, ReadsW.list ho hc hd hr⟩
  | .tuple ds, _, _, x, r => by
    cases x with
    | tup hs ha =>
      cases r
      obtain ⟨its, o, n, rv, ho, hc, hd⟩ := sqT_at hok KX hs
      obtain ⟨as, hr⟩ := Dw.readsAll hok KX ds _ its ha rv
      exact ⟨_, ReadsW.tuple ho hc hd hr⟩
  | .float _, _, _, x, _ => by cases x
  | .dict _, _, _, x, _ => by cases x
  | .bytearray _, _, _, x, _ => by cases x
  | .set _, _, _, x, _ => by cases x
  | .frozenset _, _, _, x, _ => by cases x
  | .obj _ _, _, _, x, _ => by cases x
theorem Dw.readsAll (hok : HOk P w H h) (KX : K.In h) : ∀ (ds : List WData) (vs : List V) (us : List Value), DwAll K H vs ds → Vals vs us → ∃ as, ReadsAllW R cl h us ds as
  | [], _, _, x, r => by
    cases x
    cases r
    exact ⟨_, ReadsAllW.nil⟩
  | d :: ds, _, _, x, r => by
    cases x with
    | cons h1 h2 =>
      cases r with
      | cons r1 r2 =>
        obtain ⟨as, q1⟩ := Dw.reads hok KX d _ _ h1 r1
        obtain ⟨bs, q2⟩ := Dw.readsAll hok KX ds _ _ h2 r2
        exact ⟨_, ReadsAllW.cons q1 q2⟩
end
end
/-! ### the arguments -/
mutual
/-- data that a codec tells -/
def plW : WData → Bool
  | .none => true
  | .bool _ => true
  | .int _ => true
  | .str _ => true
  | .bytes _ => true
  | .list xs => plWs xs
  | .tuple xs => plWs xs
  | _ => false
def plWs : List WData → Bool
  | [] => true
  | x :: r => plW x && plWs r
end
theorem plWs_map {α : Type} {f : α → WData} (h : ∀ a, plW (f a) = true) : ∀ l : List α, plWs (l.map f) = true
  | [] => rfl
  | x :: r => by
    show (plW (f x) && plWs (r.map f)) = true
    rw [h x, plWs_map h r] <;> rfl
theorem pl_enc : ∀ (c : Codec) (a : c.denote), plW (c.enc a) = true
  | .unit, _ => rfl
  | .bool, _ => rfl
  | .int _ _, _ => rfl
  | .nat _ _, _ => rfl
  | .u8, _ => rfl
  | .bytes _ _, _ => rfl
  | .text _ _ _ _, _ => rfl
  | .list _ _ c, a => plWs_map (fun x => pl_enc c x) a
  | .pair c d, a => by
    show (plW (c.enc a.1) && (plW (d.enc a.2) && true)) = true
    rw [pl_enc c a.1, pl_enc d a.2] <;> rfl
  | .triple c d e, a => by
    show (plW (c.enc a.1) && (plW (d.enc a.2.1) && (plW (e.enc a.2.2) && true))) = true
    rw [pl_enc c a.1, pl_enc d a.2.1, pl_enc e a.2.2] <;> rfl
  | .option c, none => rfl
  | .option c, some x => pl_enc c x
theorem pl_encAll : ∀ (cs : List Codec) (a : Codec.denoteAll cs), plWs (Codec.encAll cs a) = true
  | [], _ => rfl
  | c :: cs, a => by
    show (plW (c.enc a.1) && plWs (Codec.encAll cs a.2)) = true
    rw [pl_enc c a.1, pl_encAll cs a.2] <;> rfl
theorem weight_mem : ∀ {xs : List WData} {d : WData}, d ∈ xs → d.weight ≤ WData.weightAll xs
  | [], d, h => absurd h (by simp)
  | x :: r, d, h => by
    show d.weight ≤ x.weight + 1 + WData.weightAll r
    rcases List.mem_cons.mp h with e | m
    · rw [e]
      omega
    · have z := weight_mem m
      omega
def toV : Value → V
  | .none => .non
  | .bool b => .bl b
  | .int i _ => .int i
  | .str x _ => .str x
  | .bytes b _ => .byt b
  | .ref a => .ref a
  | _ => .non
/-- a value of the arguments, its objects among A -/
def OkU (A : List Addr) : Value → Prop
  | .none => True
  | .bool _ => True
  | .int _ _ => True
  | .str _ _ => True
  | .bytes _ _ => True
  | .ref a => a ∈ A
  | _ => False
theorem OkU.mono {A B : List Addr} (h : ∀ a ∈ A, a ∈ B) : ∀ {u : Value}, OkU A u → OkU B u := fun {u} x => by
  cases u with
  | ref a => exact h a x
  | none => trivial
  | bool b => trivial
  | int i t => trivial
  | str s t => trivial
  | bytes b t => trivial
  | _ => exact False.elim x
theorem relV_toV {A : List Addr} {u : Value} (x : OkU A u) : RelV (toV u) u := by
  cases u with
  | ref a => rfl
  | none => rfl
  | bool b => rfl
  | int i t => exact ⟨t, rfl⟩
  | str s t => exact ⟨t, rfl⟩
  | bytes b t => exact ⟨t, rfl⟩
  | _ => exact False.elim x
theorem vals_toV {A : List Addr} : ∀ {vs : List Value}, (∀ u ∈ vs, OkU A u) → Vals (vs.map toV) vs
  | [], _ => .nil
  | u :: r, h => .cons (relV_toV (h u (List.mem_cons_self ..))) (vals_toV fun x hx => h x (List.mem_cons_of_mem _ hx))
/-- an object of the arguments -/
def ArgOb (h : Heap) (A : List Addr) (a : Addr) : Prop := ∃ vs : List Value, vs.length ≤ sizeLine ∧ (∀ u ∈ vs, OkU A u) ∧
  (h.get? a = some { cls := .type "list", data := .seq vs.toArray } ∨ h.get? a = some { cls := .type "tuple", data := .seq vs.toArray })
theorem ArgOb.mono {h : Heap} {A B : List Addr} {a : Addr} (k : ∀ a ∈ A, a ∈ B) (x : ArgOb h A a) : ArgOb h B a := by
  obtain ⟨vs, h1, h2, h3⟩ := x
  exact ⟨vs, h1, fun u hu => (h2 u hu).mono k, h3⟩
theorem wellAll_len {P : Params} {h : Heap} : ∀ {vs : List Value} {ds : List WData}, WellAll P h vs ds → vs.length = ds.length
  | _, _, .nil => rfl
  | _, _, .cons _ b => by
    show _ + 1 = _ + 1
    rw [wellAll_len b]
theorem well_list {P : Params} {h : Heap} {v : Value} {ds : List WData} (x : Well P h v (.list ds)) : ∃ (a : Addr) (vs : List Value), v = .ref a ∧ h.get? a = some { cls := .type "list", data := .seq vs.toArray } ∧ WellAll P h vs ds := by
  cases x with
  | list ho hall => exact ⟨_, _, rfl, ho, hall⟩
theorem well_tuple {P : Params} {h : Heap} {v : Value} {ds : List WData} (x : Well P h v (.tuple ds)) : ∃ (a : Addr) (vs : List Value), v = .ref a ∧ h.get? a = some { cls := .type "tuple", data := .seq vs.toArray } ∧ WellAll P h vs ds := by
  cases x with
  | tuple ho hall => exact ⟨_, _, rfl, ho, hall⟩
theorem well_cons {P : Params} {h : Heap} {us : List Value} {d : WData} {ds : List WData} (x : WellAll P h us (d :: ds)) : ∃ (v : Value) (vs : List Value), us = v :: vs ∧ Well P h v d ∧ WellAll P h vs ds := by
  cases x with
  | cons a b => exact ⟨_, _, rfl, a, b⟩
theorem line_of {n : Nat} (h : n ≤ 1048576) : n ≤ sizeLine := Nat.le_trans h (by decide)
section
variable {P : Params} {h : Heap}
mutual
theorem area_one : ∀ (d : WData) (v : Value), Well P h v d → plW d = true → d.weight ≤ 1048576 → ∃ A : List Addr, OkU A v ∧ ∀ a ∈ A, ArgOb h A a
  | .none, _, x, _, _ => by
    cases x
    exact ⟨[], trivial, fun a m => absurd m (by simp)⟩
  | .bool b, _, x, _, _ => by
    cases x
    exact ⟨[], trivial, fun a m => absurd m (by simp)⟩
  | .int i, _, x, _, _ => by
    cases x
    exact ⟨[], trivial, fun a m => absurd m (by simp)⟩
  | .str s, _, x, _, _ => by
    cases x
    exact ⟨[], trivial, fun a m => absurd m (by simp)⟩
  | .bytes b, _, x, _, _ => by
    cases x
    exact ⟨[], trivial, fun a m => absurd m (by simp)⟩
  | .list ds, _, x, p, z => by
    obtain ⟨a, vs, rfl, ho, hall⟩ := well_list x
    have z2 : WData.weightAll ds ≤ 1048576 := z
    obtain ⟨A, h1, h2⟩ := area_all ds _ hall p fun d hd => Nat.le_trans (weight_mem hd) z2
    have k : ∀ b ∈ A, b ∈ a :: A := fun b hb => List.mem_cons_of_mem _ hb
    refine ⟨a :: A, List.mem_cons_self .., fun b hb => ?_⟩
    rcases List.mem_cons.mp hb with e | m
    · rw [e]
      exact ⟨vs, line_of (by rw [wellAll_len hall]; exact Nat.le_trans (PySem.W.length_le_weightAllW ds) z2), fun u hu => (h1 u hu).mono k, .inl ho⟩
    · exact (h2 b m).mono k
  | .tuple ds, _, x, p, z => by
    obtain ⟨a, vs, rfl, ho, hall⟩ := well_tuple x
    have z2 : WData.weightAll ds ≤ 1048576 := z
    obtain ⟨A, h1, h2⟩ := area_all ds _ hall p fun d hd => Nat.le_trans (weight_mem hd) z2
    have k : ∀ b ∈ A, b ∈ a :: A := fun b hb => List.mem_cons_of_mem _ hb
    refine ⟨a :: A, List.mem_cons_self .., fun b hb => ?_⟩
    rcases List.mem_cons.mp hb with e | m
    · rw [e]
      exact ⟨vs, line_of (by rw [wellAll_len hall]; exact Nat.le_trans (PySem.W.length_le_weightAllW ds) z2), fun u hu => (h1 u hu).mono k, .inr ho⟩
    · exact (h2 b m).mono k
  | .float _, _, _, p, _ => Bool.noConfusion (show false = true from p)
  | .dict _, _, _, p, _ => Bool.noConfusion (show false = true from p)
  | .bytearray _, _, _, p, _ => Bool.noConfusion (show false = true from p)
  | .set _, _, _, p, _ => Bool.noConfusion (show false = true from p)
  | .frozenset _, _, _, p, _ => Bool.noConfusion (show false = true from p)
  | .obj _ _, _, _, p, _ => Bool.noConfusion (show false = true from p)
theorem area_all : ∀ (ds : List WData) (vs : List Value), WellAll P h vs ds → plWs ds = true → (∀ d ∈ ds, d.weight ≤ 1048576) → ∃ A : List Addr, (∀ u ∈ vs, OkU A u) ∧ ∀ a ∈ A, ArgOb h A a
  | [], _, x, _, _ => by
    cases x
    exact ⟨[], fun u m => absurd m (by simp), fun a m => absurd m (by simp)⟩
  | d :: ds, _, x, p, z => by
    obtain ⟨v, vs, rfl, x1, x2⟩ := well_cons x
    have q : plW d = true ∧ plWs ds = true := Bool.and_eq_true_iff.mp p
    obtain ⟨A, a1, a2⟩ := area_one d v x1 q.1 (z d (List.mem_cons_self ..))
    obtain ⟨B, b1, b2⟩ := area_all ds vs x2 q.2 fun e he => z e (List.mem_cons_of_mem _ he)
    have kA : ∀ b ∈ A, b ∈ A ++ B := fun b hb => List.mem_append.mpr (.inl hb)
    have kB : ∀ b ∈ B, b ∈ A ++ B := fun b hb => List.mem_append.mpr (.inr hb)
    refine ⟨A ++ B, fun u hu => ?_, fun b hb => ?_⟩
    · rcases List.mem_cons.mp hu with e | m
      · rw [e]
        exact a1.mono kA
      · exact (b1 u m).mono kB
    · rcases List.mem_append.mp hb with m | m
      · exact (a2 b m).mono kA
      · exact (b2 b m).mono kB
end
end
/-- what is tracked of an argument's object -/
def hoOf (o : Obj) : Option HO := match o.data with
  | .seq vs _ => if (o.cls == Value.type "list") = true then some (.frz o (.lst (vs.toList.map toV))) else some (.frz o (.tup (vs.toList.map toV)))
  | _ => none
def argH (K : PySem.W.Frag) (h : Heap) (A : List Addr) : Hp := fun b => if b ∈ A then (if (K.lookup b).isNone = true then (h.get? b).bind hoOf else none) else none
/-- nothing is tracked but what is known to the object -/
def OnlyF (H : Hp) : Prop := ∀ b, H b = none ∨ ∃ o u, H b = some (.frz o u)
theorem hoOf_lst (vs : List Value) : hoOf { cls := .type "list", data := .seq vs.toArray } = some (.frz { cls := .type "list", data := .seq vs.toArray } (.lst (vs.map toV))) := by
  show (if (Value.type "list" == Value.type "list") = true then some (HO.frz { cls := .type "list", data := .seq vs.toArray } (.lst (vs.toArray.toList.map toV))) else some (HO.frz { cls := .type "list", data := .seq vs.toArray } (.tup (vs.toArray.toList.map toV)))) = _
  rw [if_pos (beq_self_eq_true _)]
theorem hoOf_tup (vs : List Value) : hoOf { cls := .type "tuple", data := .seq vs.toArray } = some (.frz { cls := .type "tuple", data := .seq vs.toArray } (.tup (vs.map toV))) := by
  show (if (Value.type "tuple" == Value.type "list") = true then some (HO.frz { cls := .type "tuple", data := .seq vs.toArray } (.lst (vs.toArray.toList.map toV))) else some (HO.frz { cls := .type "tuple", data := .seq vs.toArray } (.tup (vs.toArray.toList.map toV)))) = _
  rw [if_neg (by decide)]
section
variable {P : Program} {w : World} {K : PySem.W.Frag} {h : Heap} {A : List Addr}
theorem argH_at {b : Addr} {o : Obj} (hb : b ∈ A) (hk : K.lookup b = none) (e : h.get? b = some o) : argH K h A b = hoOf o := by
  unfold argH
  rw [if_pos hb, hk, if_pos (show (none : Option Obj).isNone = true from rfl), e] <;> rfl
theorem of_argH {b : Addr} {u : HO} (q : argH K h A b = some u) : b ∈ A ∧ K.lookup b = none := by
  unfold argH at q
  by_cases hb : b ∈ A
  · rw [if_pos hb] at q
    cases hk : K.lookup b with
    | none => exact ⟨hb, rfl⟩
    | some o =>
      rw [hk, if_neg (by simp)] at q
      cases q
  · rw [if_neg hb] at q
    cases q
/-- what stands tracked -/
theorem argH_is (ar : ∀ a ∈ A, ArgOb h A a) {b : Addr} {u : HO} (q : argH K h A b = some u) : K.lookup b = none ∧ ∃ vs : List Value, vs.length ≤ sizeLine ∧ (∀ u ∈ vs, OkU A u) ∧
    ((h.get? b = some { cls := .type "list", data := .seq vs.toArray } ∧ u = .frz { cls := .type "list", data := .seq vs.toArray } (.lst (vs.map toV))) ∨
     (h.get? b = some { cls := .type "tuple", data := .seq vs.toArray } ∧ u = .frz { cls := .type "tuple", data := .seq vs.toArray } (.tup (vs.map toV)))) := by
  obtain ⟨hb, hk⟩ := of_argH q
  obtain ⟨vs, h1, h2, h3⟩ := ar b hb
  refine ⟨hk, vs, h1, h2, ?_⟩
  rcases h3 with e | e
  · rw [argH_at hb hk e, hoOf_lst] at q
    exact .inl ⟨e, (Option.some.inj q).symm⟩
  · rw [argH_at hb hk e, hoOf_tup] at q
    exact .inr ⟨e, (Option.some.inj q).symm⟩
theorem argH_only (ar : ∀ a ∈ A, ArgOb h A a) : OnlyF (argH K h A) := fun b => by
  cases q : argH K h A b with
  | none => exact .inl rfl
  | some u =>
    obtain ⟨_, vs, _, _, ⟨_, e⟩ | ⟨_, e⟩⟩ := argH_is ar q
    · exact .inr ⟨_, _, by rw [e]⟩
    · exact .inr ⟨_, _, by rw [e]⟩
theorem argH_ok (ar : ∀ a ∈ A, ArgOb h A a) : HOk P w (argH K h A) h := fun b u q => by
  obtain ⟨_, vs, h1, h2, ⟨e, rfl⟩ | ⟨e, rfl⟩⟩ := argH_is ar q
  · exact ⟨e, by rw [List.length_map]; exact h1, vs, _, vals_toV h2, e⟩
  · exact ⟨e, by rw [List.length_map]; exact h1, vs, vals_toV h2, _, e, rfl, _, rfl⟩
theorem seq_inj {c c' : Value} {vs us : List Value} (e : (some { cls := c, data := .seq vs.toArray } : Option Obj) = some { cls := c', data := .seq us.toArray }) : c = c' ∧ vs = us := by
  have e1 := Option.some.inj e
  have e2 : c = c' := congrArg Obj.cls e1
  have e3 : Data.seq vs.toArray = Data.seq us.toArray := congrArg Obj.data e1
  injection e3 with e4
  refine ⟨e2, ?_⟩
  have e5 := congrArg Array.toList e4
  simpa using e5
/-- a list argument -/
theorem argL (KX : K.In h) (ar : ∀ a ∈ A, ArgOb h A a) {a : Addr} {vs : List Value} (ha : a ∈ A) (e : h.get? a = some { cls := .type "list", data := .seq vs.toArray }) : (∀ u ∈ vs, OkU A u) ∧ SqL K (argH K h A) a (vs.map toV) := by
  obtain ⟨us, h1, h2, h3⟩ := ar a ha
  have hu : us = vs := by
    rcases h3 with q | q
    · rw [e] at q
      exact (seq_inj q).2.symm
    · rw [e] at q
      exact absurd (Value.type.inj (seq_inj q).1) (by decide)
  subst hu
  refine ⟨h2, ?_⟩
  cases hk : K.lookup a with
  | none => exact .inl (.inr ⟨_, by rw [argH_at ha hk e, hoOf_lst]⟩)
  | some o =>
    have e2 := KX a o hk
    rw [e] at e2
    obtain rfl := Option.some.inj e2
    exact .inr ⟨_, us.toArray, _, hk, rfl, rfl, rfl, by rw [List.size_toArray]; exact h1, by simpa using vals_toV h2⟩
theorem argT (KX : K.In h) (ar : ∀ a ∈ A, ArgOb h A a) {a : Addr} {vs : List Value} (ha : a ∈ A) (e : h.get? a = some { cls := .type "tuple", data := .seq vs.toArray }) : (∀ u ∈ vs, OkU A u) ∧ SqT K (argH K h A) a (vs.map toV) := by
  obtain ⟨us, h1, h2, h3⟩ := ar a ha
  have hu : us = vs := by
    rcases h3 with q | q
    · rw [e] at q
      exact absurd (Value.type.inj (seq_inj q).1) (by decide)
    · rw [e] at q
      exact (seq_inj q).2.symm
  subst hu
  refine ⟨h2, ?_⟩
  cases hk : K.lookup a with
  | none => exact .inl (.inr ⟨_, by rw [argH_at ha hk e, hoOf_tup]⟩)
  | some o =>
    have e2 := KX a o hk
    rw [e] at e2
    obtain rfl := Option.some.inj e2
    exact .inr ⟨_, us.toArray, _, hk, rfl, rfl, by rw [List.size_toArray]; exact h1, by simpa using vals_toV h2⟩
mutual
theorem dw_one {Pm : Params} (KX : K.In h) (ar : ∀ a ∈ A, ArgOb h A a) : ∀ (d : WData) (v : Value), Well Pm h v d → plW d = true → OkU A v → Dw K (argH K h A) (toV v) d
  | .none, _, x, _, _ => by
    cases x
    exact .non
  | .bool b, _, x, _, _ => by
    cases x
    exact .bl b
  | .int i, _, x, _, _ => by
    cases x
    exact .int i
  | .str s, _, x, _, _ => by
    cases x
    exact .str s
  | .bytes b, _, x, _, _ => by
    cases x
    have z := Dw.byt (K := K) (H := argH K h A) b.toArray
    exact z
  | .list ds, _, x, p, hu => by
    obtain ⟨a, vs, rfl, ho, hall⟩ := well_list x
    obtain ⟨h2, hs⟩ := argL KX ar hu ho
    exact .lst hs (dw_all KX ar ds _ hall p h2)
  | .tuple ds, _, x, p, hu => by
    obtain ⟨a, vs, rfl, ho, hall⟩ := well_tuple x
    obtain ⟨h2, hs⟩ := argT KX ar hu ho
    exact .tup hs (dw_all KX ar ds _ hall p h2)
  | .float _, _, _, p, _ => Bool.noConfusion (show false = true from p)
  | .dict _, _, _, p, _ => Bool.noConfusion (show false = true from p)
  | .bytearray _, _, _, p, _ => Bool.noConfusion (show false = true from p)
  | .set _, _, _, p, _ => Bool.noConfusion (show false = true from p)
  | .frozenset _, _, _, p, _ => Bool.noConfusion (show false = true from p)
  | .obj _ _, _, _, p, _ => Bool.noConfusion (show false = true from p)
theorem dw_all {Pm : Params} (KX : K.In h) (ar : ∀ a ∈ A, ArgOb h A a) : ∀ (ds : List WData) (vs : List Value), WellAll Pm h vs ds → plWs ds = true → (∀ u ∈ vs, OkU A u) → DwAll K (argH K h A) (vs.map toV) ds
  | [], _, x, _, _ => by
    cases x
    exact .nil
  | d :: ds, _, x, p, hu => by
    obtain ⟨v, vs, rfl, x1, x2⟩ := well_cons x
    have q : plW d = true ∧ plWs ds = true := Bool.and_eq_true_iff.mp p
    exact .cons (dw_one KX ar d v x1 q.1 (hu _ (List.mem_cons_self ..))) (dw_all KX ar ds vs x2 q.2 fun u m => hu u (List.mem_cons_of_mem _ m))
end
end
/-! ### the call -/
/-! ### the row -/
theorem layable_weight {ds : List WData} (h : WData.layableAll ds = true) : ∀ d ∈ ds, d.weight ≤ 1048576 := fun d hd =>
  (PySem.W.layableW_iff.mp (List.all_eq_true.mp h d hd)).2.2
theorem encAll_len : ∀ (cs : List Codec) (a : Codec.denoteAll cs), (Codec.encAll cs a).length = cs.length
  | [], _ => rfl
  | c :: cs, a => by
    show (Codec.encAll cs a.2).length + 1 = cs.length + 1
    rw [encAll_len cs a.2]
end L2
end

section
set_option Elab.async false
set_option linter.all false
set_option maxRecDepth 100000
namespace EX
open PySem PySem.Spec PyProof.Rows L2

/-- an exception's object: its own dict stands at dx -/
abbrev xob (C : Addr) (dx : Option Addr) (vs : Array Value) (sl : Array (Option Value)) : Obj := { cls := .ref C, dict := dx, data := .fields vs, slots := sl }
/-- all but ch stands; the frames at fs up to their slots -/
structure Kp (fs ch : List Addr) (h h' : Heap) : Prop where
  keep : ∀ b o, h.get? b = some o → b ∉ ch → b ∉ fs → h'.get? b = some o
  slot : ∀ b o, h.get? b = some o → b ∉ ch → ∃ sl, h'.get? b = some { o with slots := sl }
theorem Kp.trans {fs ch ch' : List Addr} {h h1 h2 : Heap} (x : Kp fs ch h h1) (y : Kp fs ch' h1 h2) : Kp fs (ch ++ ch') h h2 := by
  refine ⟨fun b o e n1 n2 => ?_, fun b o e n1 => ?_⟩
  · rw [List.mem_append, not_or] at n1
    exact y.keep b o (x.keep b o e n1.1 n2) n1.2 n2
  · rw [List.mem_append, not_or] at n1
    obtain ⟨sl, e1⟩ := x.slot b o e n1.1
    obtain ⟨sl', e2⟩ := y.slot b _ e1 n1.2
    exact ⟨sl', e2⟩
/-- an exception whose entries have begun: T the last entry, fl what stands for its flight -/
structure Fly (h : Heap) (e T C : Addr) (dx : Option Addr) (fl : Value) : Prop where
  obj : ∃ vs sl, h.get? e = some (xob C dx vs sl) ∧ vs[1]? = some (.ref T)
  tb : ∃ oT ts, h.get? T = some oT ∧ oT.data = .fields ts ∧ ts[3]? = some fl
  ne : T ≠ e
/-- a new exception: no entry yet -/
def Fre (h : Heap) (e C : Addr) (dx : Option Addr) : Prop := ∃ vs sl, h.get? e = some (xob C dx vs sl) ∧ vs[1]? = some .none

section
variable {M : Model} {A : Around} {E : Value → Shared → Prop} {s : Shared}
theorem entry_new {base : Heap} {env : Env} {outer : List Env} {L e C : Addr} {dx : Option Addr} {vs : Array Value} {sl : Array (Option Value)} {head : Value} {had : Bool} {Q : Unit → Shared → Prop}
    (hfr : A.frames = some (env :: outer)) (hl : s.heap.FunFrames base (env :: outer)) (hf : env.frame = some L) (he : s.heap.get? e = some (xob C dx vs sl)) (hsz : 1 < vs.size)
    (h : ∀ h' T, Fly h' e T C dx (rawInt L) → s.heap.get? T = none → Kp (frs (env :: outer)) [e] s.heap h' → Q () { s with heap := h' }) :
    wpAny M A (do let a ← frameOf env; let pl ← entryPlaceOf L had; let b ← EntryCells.newEntry head a .none (rawInt L) .none pl; setField (.ref e) 1 b) Q E s := by
  have hne : e ∉ frs (env :: outer) := fun hm => by
    obtain ⟨_, o, ho, hnf⟩ := hl.mem hm
    rw [he] at ho
    cases ho
    exact hnf vs rfl
  refine wpAny_bind (wpAny_frameOf_fun hfr hl hf fun h1 hs => wpAny_bind (wpAny_entryPlaceOf fun pl hp => ?_))
  unfold EntryCells.newEntry newFields
  refine wpAny_bind (wpAny_newObj_type ?_ (hp.sizeOk5 ..))
  have e1 : h1.get? e = some (xob C dx vs sl) := (hs.2.1 e hne).trans he
  have nT : s.heap.get? h1.objs.size = none := Heap.get?_none_of_le (by rw [hs.1]; exact Nat.le_refl _)
  have neT : h1.objs.size ≠ e := Nat.ne_of_gt (Heap.lt_size e1)
  refine wpAny_setField (Heap.get?_push_of_some _ e1) rfl hsz (h _ h1.objs.size ⟨⟨vs.setIfInBounds 1 (.ref h1.objs.size), sl, ?_, by simp [hsz]⟩, ⟨_, _, (Heap.get?_update_other _ _ neT.symm).trans (Heap.get?_push_size h1 rfl), rfl, ?_⟩, neT⟩ nT ⟨?_, ?_⟩)
  · exact Heap.get?_update_self (Obj.mapFields (·.setIfInBounds 1 (Value.ref h1.objs.size))) (Heap.get?_push_of_some _ e1) rfl
  · first | (simp; done) | (rcases hp with rfl | ⟨_, _, _, _, _, _, _, rfl⟩ <;> simp)
  · intro b o q n1 n2
    rw [Heap.get?_update_other _ _ (fun z => n1 (by rw [← z]; exact List.mem_singleton.mpr rfl))]
    exact Heap.get?_push_of_some _ ((hs.2.1 b n2).trans q)
  · intro b o q n1
    obtain ⟨sl', q'⟩ := hs.2.2 b o q
    exact ⟨sl', (Heap.get?_update_other _ _ (fun z => n1 (by rw [← z]; exact List.mem_singleton.mpr rfl))).trans (Heap.get?_push_of_some _ q')⟩

theorem note_first {base : Heap} {env : Env} {outer : List Env} {L e C : Addr} {dx : Option Addr} {Q : Unit → Shared → Prop}
    (hfr : A.frames = some (env :: outer)) (hl : s.heap.FunFrames base (env :: outer)) (hf : env.frame = some L) (he : Fre s.heap e C dx)
    (h : ∀ h' T, Fly h' e T C dx (rawInt L) → s.heap.get? T = none → Kp (frs (env :: outer)) [e] s.heap h' → Q () { s with heap := h' }) : wpAny M A (noteFrame (.ref e) env) Q E s := by
  obtain ⟨vs, sl, e1, e2⟩ := he
  unfold noteFrame
  rw [hf]
  refine wpAny_bind (wpAny_field e1 rfl e2 ?_)
  rw [if_neg (by decide)]
  exact entry_new hfr hl hf e1 (Array.getElem?_eq_some_iff.mp e2).1 h

theorem note_next {base : Heap} {env : Env} {outer : List Env} {L e T C : Addr} {dx : Option Addr} {Q : Unit → Shared → Prop}
    (hfr : A.frames = some (env :: outer)) (hl : s.heap.FunFrames base (env :: outer)) (hf : env.frame = some L) (he : Fly s.heap e T C dx .none)
    (h : ∀ h' T', Fly h' e T' C dx (rawInt L) → s.heap.get? T' = none → Kp (frs (env :: outer)) [T, e] s.heap h' → Q () { s with heap := h' }) : wpAny M A (noteFrame (.ref e) env) Q E s := by
  obtain ⟨⟨vs, sl, e1, e2⟩, ⟨oT, ts, t1, t2, t3⟩, ne⟩ := he
  unfold noteFrame
  rw [hf]
  refine wpAny_bind (wpAny_field e1 rfl e2 ?_)
  rw [if_pos (show (Value.ref T != Value.none) = true by simp)]
  refine wpAny_bind (wpAny_field t1 t2 t3 ?_)
  rw [if_neg (show ¬ ((Value.none == rawInt L) = true) by simp [rawInt])]
  refine wpAny_bind (wpAny_setField t1 t2 (Array.getElem?_eq_some_iff.mp t3).1 ?_)
  have oth : ∀ b, b ≠ T → (s.heap.update T (Obj.mapFields (·.setIfInBounds 3 Value.none))).get? b = s.heap.get? b := fun b hb => Heap.get?_update_other _ _ (Ne.symm hb)
  have nr : ∀ b o, s.heap.get? b = some o → (∀ vs, o.data ≠ .fields vs) → b ≠ T := fun b o hb hn q => by
    rw [q, t1] at hb
    cases hb
    exact hn ts t2
  refine entry_new hfr (hl.of_keeps fun b o hb hn => ⟨o, (oth b (nr b o hb hn)).trans hb, rfl⟩) hf ((oth e ne.symm).trans e1) (Array.getElem?_eq_some_iff.mp e2).1 fun h' T' f n k => h h' T' f ?_ ?_
  · cases q : s.heap.get? T' with
    | none => rfl
    | some o =>
      by_cases z : T' = T
      · have z1 := Heap.get?_update_self (Obj.mapFields (·.setIfInBounds 3 Value.none)) t1 (Obj.isFreed_of_fields (Obj.data_mapFields t2 _))
        rw [z] at n
        rw [show _ = _ from z1] at n
        cases n
      · rw [oth T' z, q] at n
        cases n
  · have k0 : Kp (frs (env :: outer)) [T] s.heap (s.heap.update T (Obj.mapFields (·.setIfInBounds 3 Value.none))) :=
      ⟨fun b o q n1 _ => (oth b fun z => n1 (by rw [z]; exact List.mem_singleton.mpr rfl)).trans q, fun b o q n1 => ⟨o.slots, (oth b fun z => n1 (by rw [z]; exact List.mem_singleton.mpr rfl)).trans q⟩⟩
    exact k0.trans k

theorem land_ {fs : List Addr} {e T C : Addr} {dx : Option Addr} {fl : Value} {Q : Unit → Shared → Prop} (he : Fly s.heap e T C dx fl)
    (h : ∀ h', Fly h' e T C dx .none → Kp fs [T] s.heap h' → Q () { s with heap := h' }) : wpAny M A (setFlight (.ref e) none) Q E s := by
  obtain ⟨⟨vs, sl, e1, e2⟩, ⟨oT, ts, t1, t2, t3⟩, ne⟩ := he
  have sz := (Array.getElem?_eq_some_iff.mp t3).1
  have oth : ∀ b, b ≠ T → (s.heap.update T (Obj.mapFields (·.setIfInBounds 3 Value.none))).get? b = s.heap.get? b := fun b hb => Heap.get?_update_other _ _ (Ne.symm hb)
  refine wpAny_setFlight_none e1 rfl e2 t1 t2 sz (h _ ⟨⟨vs, sl, (oth e ne.symm).trans e1, e2⟩, ⟨_, _, Heap.get?_update_self _ t1 (Obj.isFreed_of_fields (Obj.data_mapFields t2 _)), Obj.data_mapFields t2 _, by simp [sz]⟩, ne⟩ ⟨?_, ?_⟩)
  · exact fun b o q n1 _ => (oth b fun z => n1 (by rw [z]; exact List.mem_singleton.mpr rfl)).trans q
  · exact fun b o q n1 => ⟨o.slots, (oth b fun z => n1 (by rw [z]; exact List.mem_singleton.mpr rfl)).trans q⟩
end
end EX
end

section
set_option Elab.async false
set_option linter.all false
set_option maxRecDepth 100000
namespace EX
open PySem PySem.Spec PyProof.Rows L2
open Builtin Builtin.ObjectAttr

section
variable {prog : Program} {w : World} {A : Around} {E : Value → Shared → Prop} {h : Heap} {g : Array GenState} {d : Drawn} {t : Nat} {os : OsState}
variable {nm q : Str} {C N x : Addr} {bs bm : List Value} {sn : List Str} {sub : List Value} {ab : Bool} {col : Option Bool} {dd : Option Addr} {k0 k1 k2 k3 k5 : Option Value} {B newId sa owner : String}
  {mN mA : Str → Option Value} {name : Str} {v : Value} {o : Obj}

end
end EX
end

section
set_option Elab.async false
set_option linter.all false
set_option maxRecDepth 100000
namespace EX
open PySem PySem.Spec PyProof.Rows L2

abbrev bmX : List Value := [.type "Exception", .type "BaseException", .type "object"]
/-- an own exception class of the text, straight under Exception, with an own __init__; its fields are no attribute of a class -/
structure XC (K : PySem.W.Frag) (C fI : Addr) (fs : List Str) : Prop where
  ex : ∃ (nm q : Str) (N : Addr) (bs : List Value) (sn : List Str) (sub : List Value) (ab : Bool) (col : Option Bool) (dd : Option Addr) (k0 k1 k2 k3 k5 : Option Value),
    K.lookup C = some (excClassObj nm q C N bs bmX true sn sub ab col dd k0 k1 k2 k3 k5 "Exception.__new__") ∧ PySem.W.nsOkIn K N = true ∧ PySem.W.nsIn K N "__init__" = some (some (.ref fI)) ∧
    PySem.W.nsIn K N "__setattr__" = some none ∧ PySem.W.nsIn K N "__getattribute__" = some none ∧ PySem.W.nsIn K N "__getattr__" = some none ∧ ∀ f ∈ fs, PySem.W.nsIn K N f = some none
  base : ∀ f ∈ fs, typeLookup (.type "Exception") f = pure none
  fn : PySem.W.isFn K (.ref fI) = true
  kp : PySem.W.keepIn K (.ref C) = true
/-- an own exception class of the text, straight under Exception, that says nothing more -/
structure XP (K : PySem.W.Frag) (C : Addr) : Prop where
  ex : ∃ (nm q : Str) (N : Addr) (bs : List Value) (sn : List Str) (sub : List Value) (ab : Bool) (col : Option Bool) (dd : Option Addr) (k0 k1 k2 k3 k5 : Option Value),
    K.lookup C = some (excClassObj nm q C N bs bmX true sn sub ab col dd k0 k1 k2 k3 k5 "Exception.__new__") ∧ PySem.W.nsOkIn K N = true ∧ PySem.W.nsIn K N "__init__" = some none
  kp : PySem.W.keepIn K (.ref C) = true
/-- an exception's class -/
def XK1 (K : PySem.W.Frag) (C : Addr) : Prop := ∃ (nm q : Str) (N : Addr) (bs : List Value) (sn : List Str) (sub : List Value) (ab : Bool) (col : Option Bool) (dd : Option Addr) (k0 k1 k2 k3 k5 : Option Value),
    K.lookup C = some (excClassObj nm q C N bs bmX true sn sub ab col dd k0 k1 k2 k3 k5 "Exception.__new__")
theorem XC.k1 {K : PySem.W.Frag} {C fI : Addr} {fs : List Str} (c : XC K C fI fs) : XK1 K C := by
  obtain ⟨nm, q, N, bs, sn, sub, ab, col, dd, k0, k1, k2, k3, k5, a1, _⟩ := c.ex
  exact ⟨nm, q, N, bs, sn, sub, ab, col, dd, k0, k1, k2, k3, k5, a1⟩
theorem XP.k1 {K : PySem.W.Frag} {C : Addr} (c : XP K C) : XK1 K C := by
  obtain ⟨nm, q, N, bs, sn, sub, ab, col, dd, k0, k1, k2, k3, k5, a1, _⟩ := c.ex
  exact ⟨nm, q, N, bs, sn, sub, ab, col, dd, k0, k1, k2, k3, k5, a1⟩

/-- the body of such an __init__: self.f1 = f1; self.f2 = f2; self.f3 = f3 -/
def InitBody (f1 f2 f3 : Str) (b : List Stmt) : Prop := ∃ p1 p2 p3 p4 p5 p6 p7 p8 p9 p10 p11 p12 : Pos,
  b = [.Assign [.Attribute (.Name "self" p1) f1 p2] (.Name f1 p3) p4, .Assign [.Attribute (.Name "self" p5) f2 p6] (.Name f2 p7) p8, .Assign [.Attribute (.Name "self" p9) f3 p10] (.Name f3 p11) p12]
section
variable {prog : Program} {w : World} {A : Around} {E : Value → Shared → Prop} {s : Shared} {K : PySem.W.Frag} {C fI : Addr} {f1 f2 f3 : Str}

end
end EX
end

section
set_option Elab.async false
set_option linter.all false
set_option maxRecDepth 100000
namespace EX
open PySem PySem.Spec PyProof.Rows L2

/-- all that is asked of such a class and its __init__ (its last parameter may be left out: dV, ds) -/
structure XInit (K : PySem.W.Frag) (C fI : Addr) (f1 f2 f3 : Str) (d3 : Int) : Prop where
  c : XC K C fI [f1, f2, f3]
  ex : ∃ (qn : Str) (st : Stmt) (dV : Value) (fd : FuncData) (t : Tok), (∃ (oc : Value) (od : Option Addr) (kV doc pm : Value) (an : Option Addr) (cdv ct : Value) (osl : Array (Option Value)),
      fd = PySem.W.fnOf "__init__" qn (defArgs st) (defBody st) (defScope st) dV kV doc pm an cdv ct ∧ K.lookup fI = some ⟨oc, od, .func fd, osl⟩ ∧ PySem.W.codeIn K cdv qn = true) ∧
    FnScope ["self", f1, f2, f3] ["self", f1, f2, f3] (defScope st) ∧ Binds K fd ["self", f1, f2, f3] [] ∧ Binds K fd ["self", f1, f2, f3] [.int d3 t] ∧ InitBody f1 f2 f3 (defBody st) ∧
    ∀ x ∈ (["self", f1, f2, f3] : List Str), (defScope st).names.lookup x = some .local
  sw : ∀ (env : Env) (p1 p2 p3 p4 : Pos) (f : Str), swapsWith (.Name f p3) (some (.Attribute (.Name "self" p1) f p2)) p4.line env = pure false
  nd1 : (f1 == ("__debug__" : Str)) = false
  nd2 : (f2 == ("__debug__" : Str)) = false
  nd3 : (f3 == ("__debug__" : Str)) = false

abbrev fresh6 (t : Addr) : Array Value := #[.ref t, .none, .none, .none, .bool false, .none]
section
variable {prog : Program} {w : World} {A : Around} {E : Value → Shared → Prop} {s : Shared} {K : PySem.W.Frag} {C fI : Addr} {f1 f2 f3 : Str} {d3 : Int}
theorem make_plain {Q : Value → Shared → Prop} (KX : K.In s.heap) (T : XP K C)
    (hq : ∀ h' e t, h'.get? e = some (xob C none (fresh6 t) #[]) → s.heap.get? e = none → (∀ b o, s.heap.get? b = some o → h'.get? b = some o) → Q (.ref e) { s with heap := h' }) :
    wpAny (model prog w) A (call (.ref C) []) Q E s := by
  obtain ⟨nm, q, N, bs, sn, sub, ab, col, dd, k0, k1, k2, k3, k5, a1, a2, a3⟩ := T.ex
  have G : s.heap.Ns N (s.heap.nsMap N) := .of_isNs (PySem.W.isNs_of_in KX a2)
  obtain ⟨hp, g, d, tk, os⟩ := s
  refine wpAny_call_exc_sub PySem.F.excBase_Exception (KX _ _ a1) G (PySem.W.ns_none_of KX G a3) (fun h' e hm => ?_) (by show 0 ≤ sizeLine; decide)
  obtain ⟨t, t1, t2, t3⟩ := hm.there
  exact hq h' e t t1 hm.new hm.keeps
end

section
variable {M : Model} {A : Around} {E : Value → Shared → Prop} {env : Env}
variable {nm q : Str} {C N : Addr} {bs bm : List Value} {hdct : Bool} {sn : List Str} {sub : List Value} {ab : Bool} {col : Option Bool} {dd : Option Addr} {k0 k1 k2 k3 k5 : Option Value} {newId : String}
theorem raise_made {s : Shared} {x : Sem Value} {Q : Flow → Shared → Prop} (hbase : bm.contains (.type "BaseException") = true) (hh : A.handled = none)
    (h : wpAny M A x (fun v s1 => ∃ e d t, v = .ref e ∧ (∃ nm q N bs hdct sn sub ab col dd k0 k1 k2 k3 k5 newId, s1.heap.get? C = some (excClassObj nm q C N bs bm hdct sn sub ab col dd k0 k1 k2 k3 k5 newId)) ∧
      s1.heap.get? e = some (xob C d (fresh6 t) #[]) ∧ E (.ref e) s1) E s) : wpAny M A (raiseStmt env (some x) none) Q E s := by
  have hcB : (Value.ref C :: bm).contains (.type "BaseException") = true := by rw [List.contains_cons, hbase, Bool.or_true]
  unfold raiseStmt
  refine wpAny_bind (wpAny_mono h (fun v s1 h1 => ?_) fun _ _ x => x)
  obtain ⟨e, d', t, rfl, ⟨nm, q, N, bs, hdct, sn, sub, ab, col, dd, k0, k1, k2, k3, k5, newId, hC⟩, he, hE⟩ := h1
  obtain ⟨hp, g, d, tk, os⟩ := s1
  repeat (first | with_reducible refine wpAny_loadPart_at he ?_ | with_reducible refine wpAny_loadPart_at hC ?_ | (with_reducible refine wpAny_isSubtype_exc hC ?_; rw [hcB]) | wp_step)
  exact wpAny_raiseNew_none hh hE
end

/-! ### an object that the heap has already, now tracked -/
theorem obj_in {P : Program} {w : World} {H : Hp} {h : Heap} {a : Addr} {o : HO} (x : ObjOk P w H h a o) : ∃ q, h.get? a = some q := by
  cases o with
  | lst xs => obtain ⟨_, _, _, _, e⟩ := x; exact ⟨_, e⟩
  | tup xs => obtain ⟨_, _, _, ob, e, _⟩ := x; exact ⟨_, e⟩
  | dK kvs => obtain ⟨_, _, _, _, o, _, _, e, _⟩ := x; exact ⟨_, e⟩
  | dT kvs => obtain ⟨_, _, _, _, o, _, _, e, _⟩ := x; exact ⟨_, e⟩
  | set S n => obtain ⟨o, _, _, _, e, _⟩ := x; exact ⟨_, e⟩
  | ins C dx fs => obtain ⟨_, _, _, e, _⟩ := x; exact ⟨_, e⟩
  | own y => exact x
  | xd fs => obtain ⟨_, ⟨_, _, _, e, _⟩, _⟩ := x; exact ⟨_, e⟩
  | rng lo hi => obtain ⟨_, _, _, e⟩ := x; exact ⟨_, e⟩
  | frz ob u => obtain ⟨e, _⟩ := x; exact ⟨_, e⟩
  | tbl ps => exact ⟨_, x⟩
  | met f y => exact ⟨_, x⟩
  | ext φ => obtain ⟨_, e, _⟩ := x; exact e
section
variable {X : Cx} {pins : List (Addr × Obj)} {σ : L2.St} {H : Hp} {s : Shared} {a : Addr} {o : HO}
/-- what is new to the heap is none of ours -/
structure New (X : Cx) (pins : List (Addr × Obj)) (H : Hp) (a : Addr) : Prop where
  hn : H a = none
  h0 : X.s_0.heap.get? a = none
  hL : a ≠ X.env.locals
  hc : ∀ x c, X.env.cells.lookup x = some c → c ≠ a
  hp : ∀ p ∈ X.pn ++ pins, p.1 ≠ a
  hf : a ∉ frs X.stack
theorem new_of (I : Inv X pins σ H s) (hex : X.ex = []) (n : s.heap.get? a = none) : New X pins H a where
  hn := by
    cases w : H a with
    | none => rfl
    | some o =>
      obtain ⟨q, z⟩ := obj_in (I.hok a o w)
      rw [n] at z
      cases z
  h0 := by
    cases w : X.s_0.heap.get? a with
    | none => rfl
    | some o =>
      obtain ⟨q, z⟩ := I.base.there a o w (by rw [hex]; simp)
      rw [n] at z
      cases z
  hL := by
    rintro rfl
    obtain ⟨m, ⟨ob, _, _, e, _⟩, _⟩ := I.loc
    rw [n] at e
    cases e
  hc := fun x c e z => by
    subst z
    obtain ⟨v, ob, e1, _⟩ := I.cell x c e
    rw [n] at e1
    cases e1
  hp := fun p hp z => by
    have e := (I.pin p hp).1
    rw [z, n] at e
    cases e
  hf := fun z => by
    obtain ⟨_, ob, e, _⟩ := I.stack.mem z
    rw [n] at e
    cases e
theorem track (I : Inv X pins σ H s) (N : New X pins H a) (new : ObjOk X.prog X.w (upd H a o) s.heap a o) : Inv X pins σ (upd H a o) s := by
  refine ⟨I.ok, I.os, I.bare, ⟨I.base.keep, I.base.slot, fun b ob q n hx => ?_, I.base.there, fun b xs q => ?_, fun b ob u q => ?_, fun b ps q => ?_⟩, I.loc, I.cell, ?_, fun x c e => ?_, fun p hp => ?_, fun b u q => ?_, I.len⟩
  · rw [upd_ne (fun z => by rw [z, N.h0] at q; cases q)]
    exact I.base.free b ob q n hx
  · have z := I.base.tups b xs q
    rw [upd_ne (ne_of_none z N.hn)]
    exact z
  · have z := I.base.frzs b ob u q
    rw [upd_ne (ne_of_none z N.hn)]
    exact z
  · obtain ⟨more, z⟩ := I.base.tbls b ps q
    exact ⟨more, by rw [upd_ne (ne_of_none z N.hn)]; exact z⟩
  · rw [upd_ne N.hL.symm]; exact I.free
  · rw [upd_ne (N.hc x c e)]; exact I.freeC x c e
  · obtain ⟨p1, p2, p3⟩ := I.pin p hp
    exact ⟨p1, by rw [upd_ne (N.hp p hp)]; exact p2, p3⟩
  · by_cases hb : b = a
    · subst hb
      rw [upd_same] at q
      cases q
      exact new
    · rw [upd_ne hb] at q
      exact (I.hok b u q).stay (fun c v _ e => e) (fun c e => by rw [upd_ne (ne_of_none e N.hn)]; exact e) fun c xs e => by rw [upd_ne (ne_of_none e N.hn)]; exact e
end

section
variable {X : Cx} {pins : List (Addr × Obj)} {σ : L2.St} {H : Hp} {s : Shared} {C fI : Addr} {f1 f2 f3 x : Str} {d3 : Int}
/-- what a raise wants of X.xe: a new exception of the class at C; its dict, if there is one, is tracked -/
def Raises (X : Cx) (E : XK) : Prop := ∀ (pins : List (Addr × Obj)) (σ : L2.St) (H : Hp) (s : Shared) (e C : Addr) (d : Option Addr), Inv X pins σ H s → Fre s.heap e C d → H e = none → X.s_0.heap.get? e = none →
  (∀ dx, d = some dx → ∃ fs, H dx = some (.xd fs)) → E (.ref C) d H → X.xe (.ref e) s
def tRaiseP (C : Addr) (E : XK) : TS := fun _ σ H => E (.ref C) none H
/-- raise X(), X a class that says nothing more -/
theorem ps_raiseP {p pos cpos : Pos} {E : XK} (T : XP X.K C) (hc : X.calm = true) (hex : X.ex = []) (hg : Gl X x) (hm : X.mg x = some (.ref C)) (hx : Raises X E) (hdb : (x == ("__debug__" : Str)) = false := by decide) :
    PS X (.Raise (some (.Call (.Name x p) [] [] cpos)) none pos) (tRaiseP C E) := by
  intro pins s σ H D I h
  rw [arm_exec_Raise]
  have key : wpAny (model X.prog X.w) X.A (eval (.Call (.Name x p) [] [] cpos) X.env) (fun v s1 => ∃ e d t, v = .ref e ∧
      (∃ nm q N bs hdct sn sub ab col dd k0 k1 k2 k3 k5 newId, s1.heap.get? C = some (excClassObj nm q C N bs bmX hdct sn sub ab col dd k0 k1 k2 k3 k5 newId)) ∧ s1.heap.get? e = some (xob C d (fresh6 t) #[]) ∧ X.xe (.ref e) s1) X.xe s := by
    refine wpAny_Call_Name_kw (ld_glob I hg hm ?_ hdb)
    refine PySem.W.callWith_K0 I.kIn T.kp (make_plain I.kIn T fun h' e t b1 b2 b3 => ⟨e, none, t, rfl, ?_, b1, ?_⟩)
    · obtain ⟨nm, q, N, bs, sn, sub, ab, col, dd, k0, k1, k2, k3, k5, a1, _⟩ := T.ex
      exact ⟨nm, q, N, bs, true, sn, sub, ab, col, dd, k0, k1, k2, k3, k5, _, I.kIn.keeps b3 _ _ a1⟩
    · have Ne := new_of I hex b2
      exact hx pins σ H _ e C none (I.kept (t' := s.toks) b3) ⟨_, _, b1, rfl⟩ Ne.hn Ne.h0 (fun dx' z => by cases z) h
  exact wpAny_bind (wpAny_standAt (raise_made (bm := bmX) (by decide) (I.ok.hd hc) (wpAny_bind (wpAny_mono key (fun v s1 h1 => wpAny_bind (wpAny_standAt (wpAny_pure h1))) fun _ _ z => z))))
end
end EX
end

section
set_option Elab.async false
set_option linter.all false
set_option maxRecDepth 100000
namespace EX
open PySem PySem.Spec PyProof.Rows L2

/-- an exception behind a call: it flies, its dict is tracked, the rest as behind any call -/
def CXF (P : Program) (w : World) : CXT := fun outer H s E e s' => ∃ (ea T C : Addr) (d : Option Addr) (H' : Hp), e = .ref ea ∧ s'.os = s.os ∧ AllBare s'.gens ∧ Un (frs outer) [] H H' s.heap s'.heap ∧ HOk P w H' s'.heap ∧
  Fly s'.heap ea T C d .none ∧ H' ea = none ∧ H' T = none ∧ s.heap.get? ea = none ∧ s.heap.get? T = none ∧ (∀ dx, d = some dx → ∃ fs, H' dx = some (.xd fs)) ∧ E (.ref C) d H'

section
variable {X : Cx} {pins : List (Addr × Obj)} {σ : L2.St} {H : Hp} {s : Shared} {E' : Value → Shared → Prop} {E : XK}
theorem frs_cons {env : Env} {outer : List Env} {L : Addr} (h : env.frame = some L) : frs (env :: outer) = L :: frs outer := by
  unfold frs
  rw [List.filterMap_cons, h]
theorem un_kp {h2 : Heap} {ch : List Addr} (I : Inv X pins σ H s) (hst : X.stack = X.env :: X.outer) (hfr : X.env.frame = some X.env.locals) (hex : X.ex = []) (k : Kp (frs X.stack) ch s.heap h2) (h0 : ∀ b ∈ ch, X.s_0.heap.get? b = none) :
    Un (frs X.outer) [] X.H_0 H X.s_0.heap h2 := by
  have nch : ∀ b o, X.s_0.heap.get? b = some o → b ∉ ch := fun b o q z => by
    rw [h0 b z] at q
    cases q
  have nx : ∀ b : Addr, b ∉ X.ex := fun b z => by rw [hex] at z; cases z
  have nL : ∀ b o, X.s_0.heap.get? b = some o → b ∉ frs X.outer → b ∉ frs X.stack := fun b o q n z => by
    rw [hst, frs_cons hfr] at z
    rcases List.mem_cons.mp z with z | z
    · exact absurd (Nat.lt_of_lt_of_le (Heap.lt_size q) I.ok.above) (by rw [z]; exact Nat.lt_irrefl _)
    · exact n z
  refine ⟨fun b o q n hb _ => k.keep b o (I.base.keep b o q n hb (nx b)) (nch b o q) (nL b o q hb), fun b o q n hb _ => ?_, fun b o q n _ => I.base.free b o q n (nx b), fun b o q _ => ?_, I.base.tups, I.base.frzs, I.base.tbls⟩
  · obtain ⟨sl, e⟩ := I.base.slot b o q n hb (nx b)
    obtain ⟨sl', e'⟩ := k.slot b _ e (nch b o q)
    exact ⟨sl', e'⟩
  · obtain ⟨o', e⟩ := I.base.there b o q (nx b)
    obtain ⟨sl', e'⟩ := k.slot b _ e (nch b o q)
    exact ⟨_, e'⟩
theorem hok_kp {h2 : Heap} {ch : List Addr} (I : Inv X pins σ H s) (k : Kp (frs X.stack) ch s.heap h2) (hH : ∀ b ∈ ch, H b = none) : HOk X.prog X.w H h2 := fun a o e =>
  (I.hok a o e).stay (fun b u hb q => by
    have hs : ∃ z, H b = some z := by
      rcases hb with rfl | hb
      · exact ⟨o, e⟩
      · exact ⟨_, hb⟩
    obtain ⟨z, hz⟩ := hs
    refine k.keep b u q (fun m => ?_) fun m => ?_
    · rw [hH b m] at hz; cases hz
    · rw [I.stkFree b m] at hz; cases hz) (fun _ q => q) fun _ _ q => q
theorem nones (I : Inv X pins σ H s) (hex : X.ex = []) {a : Addr} (n : s.heap.get? a = none) : H a = none ∧ X.s_0.heap.get? a = none := let N := new_of I hex n; ⟨N.hn, N.h0⟩

/-- what is in flight here: a new exception, or one that came out of a call -/
def Here (X : Cx) (H : Hp) (h : Heap) (ea C : Addr) (dx : Option Addr) : Prop := (H ea = none ∧ X.s_0.heap.get? ea = none) ∧ (Fre h ea C dx ∨ ∃ T, Fly h ea T C dx .none ∧ H T = none ∧ X.s_0.heap.get? T = none)
/-- the frame is noted -/
theorem note_here {Q : Unit → Shared → Prop} {ea C : Addr} {dx : Option Addr} (I : Inv X pins σ H s) (hst : X.stack = X.env :: X.outer) (hfr : X.env.frame = some X.env.locals) (hex : X.ex = []) (he : Here X H s.heap ea C dx)
    (h : ∀ h1 T ch, Fly h1 ea T C dx (rawInt X.env.locals) → (H T = none ∧ X.s_0.heap.get? T = none) → Kp (frs X.stack) ch s.heap h1 → (∀ b ∈ ch, H b = none ∧ X.s_0.heap.get? b = none) → Q () { s with heap := h1 }) :
    wpAny (model X.prog X.w) X.A (noteFrame (.ref ea) X.env) Q E' s := by
  have hF : X.A.frames = some (X.env :: X.outer) := by rw [← hst]; exact I.ok.frames
  have hL : s.heap.FunFrames X.base (X.env :: X.outer) := by rw [← hst]; exact I.stack
  obtain ⟨h0, hf | ⟨T, hf, hT⟩⟩ := he
  · refine note_first hF hL hfr hf fun h1 T f n k => h h1 T [ea] f (nones I hex n) (by rw [hst]; exact k) fun b hb => ?_
    rw [List.mem_singleton.mp hb]
    exact h0
  · refine note_next hF hL hfr hf fun h1 T' f n k => h h1 T' [T, ea] f (nones I hex n) (by rw [hst]; exact k) fun b hb => ?_
    rcases List.mem_cons.mp hb with rfl | hb
    · exact hT
    · rw [List.mem_singleton.mp hb]
      exact h0
/-- the exception leaves the def -/
theorem leave_here {ea C : Addr} {dx : Option Addr} (I : Inv X pins σ H s) (hst : X.stack = X.env :: X.outer) (hfr : X.env.frame = some X.env.locals) (hex : X.ex = []) (he : Here X H s.heap ea C dx)
    (hd : ∀ dx', dx = some dx' → ∃ fs, H dx' = some (.xd fs)) (hE : E (.ref C) dx H) : wpAny (model X.prog X.w) X.A (leaving X.env (.ref ea)) (fun _ s' => CXF X.prog X.w X.outer X.H_0 X.s_0 E (.ref ea) s') E' s := by
  unfold leaving
  refine wpAny_bind (note_here I hst hfr hex he fun h1 T ch f nT k hc => ?_)
  refine land_ (fs := frs X.stack) (s := { s with heap := h1 }) f fun h2 f2 k2 => ?_
  have k3 := k.trans k2
  have hc3 : ∀ b ∈ ch ++ [T], H b = none ∧ X.s_0.heap.get? b = none := fun b hb => by
    rcases List.mem_append.mp hb with hb | hb
    · exact hc b hb
    · rw [List.mem_singleton.mp hb]
      exact nT
  exact ⟨ea, T, C, dx, H, rfl, I.os, I.bare, un_kp I hst hfr hex k3 fun b hb => (hc3 b hb).2, hok_kp I k3 fun b hb => (hc3 b hb).1, f2, he.1.1, nT.1, he.1.2, nT.2, hd, hE⟩
end

section
variable {P : Program} {w : World} {K : PySem.W.Frag} {mg : Str → Option Value} {base : Heap} {N : List Str} {qual : Str} {scope : Scope} {f : Addr} {cd : Value} {A : Around} {outer : List Env} {s0 : Shared} {H0 : Hp} {E : XK}
/-- the context of a def that may raise -/
abbrev cxX (P : Program) (w : World) (K : PySem.W.Frag) (mg : Str → Option Value) (base : Heap) (N : List Str) (qual : Str) (scope : Scope) (f : Addr) (cd : Value) (A : Around) (outer : List Env) (s : Shared) (H : Hp) (E : XK) : Cx :=
  cxOf (CXF P w) P w K mg base N qual scope f cd A outer s H E
theorem raises_fn : Raises (cxX P w K mg base N qual scope f cd A outer s0 H0 E) E := by
  intro pins σ H s e C d I hf h1 h2 hd hE
  exact leave_here I rfl rfl rfl ⟨⟨h1, h2⟩, .inl hf⟩ hd hE
theorem passes_fn : Passes (CXF P w) (cxX P w K mg base N qual scope f cd A outer s0 H0 E) E := by
  intro pins σ H s e s' I h
  obtain ⟨ea, T, C, dx, H', rfl, h1, h2, h3, h4, h5, h6, h7, h8, h9, h10, h11⟩ := h
  have I' : Inv (cxX P w K mg base N qual scope f cd A outer s0 H0 E) pins σ H' s' := I.call' (ch := []) h1 h3 h4 h2 (fun b z => absurd z (by simp))
  exact leave_here I' rfl rfl rfl ⟨⟨h6, (nones I rfl h8).2⟩, .inr ⟨T, h5, h7, (nones I rfl h9).2⟩⟩ h10 h11
theorem own_fn : PassesOwn (model P w) (cxX P w K mg base N qual scope f cd A outer s0 H0 E).A (cxX P w K mg base N qual scope f cd A outer s0 H0 E).env (cxX P w K mg base N qual scope f cd A outer s0 H0 E).xe := PassesOwn.leaving
/-- THE RULE for a def that may raise -/
theorem okX {x : Str} {st : Stmt} {fd : FuncData} {ps : List Str} {k : Nat} {sp : Sp} (F : Fun K x qual st f fd) (S : FnScope N ps (defScope st)) (len : ∀ vs H Q E, sp vs H Q E → vs.length = ps.length)
    (hbody : ∀ (cdv : Value) (A : Around) (outer : List Env) (s : Shared) (H : Hp) (vs : List V) (Q : VK) (E : XK), Room k (A.deeper (envOfC qual (defScope st) s.heap.objs.size f cdv)) → sp vs H Q E →
      ∃ t, PSs (cxX P w K mg base N qual (defScope st) f cdv A outer s H E) (defBody st) t ∧ t { nx := fun _ H' => Q .non H', rt := Q } (start N vs) H) : FnOk P w K mg base (CXF P w) (k + 1) f fd ps sp := by
  obtain ⟨oc, od, kV, doc, pm, an, cdv, ct, osl, rfl, lk, hcd⟩ := F.ex
  exact fn_of lk hcd S len fun A outer s H vs Q E hr hsp => hbody cdv A outer s H vs Q E hr hsp
end
end EX
end

section
set_option Elab.async false
set_option linter.all false
set_option maxRecDepth 100000
namespace EX
open PySem PySem.Spec PyProof.Rows L2

/-- none of the frame's own things -/
structure Off (X : Cx) (pins : List (Addr × Obj)) (H : Hp) (b : Addr) : Prop where
  hn : H b = none
  h0 : X.s_0.heap.get? b = none
  hL : b ≠ X.env.locals
  hc : ∀ x c, X.env.cells.lookup x = some c → c ≠ b
  hp : ∀ p ∈ X.pn ++ pins, p.1 ≠ b
theorem New.off {X : Cx} {pins : List (Addr × Obj)} {H : Hp} {b : Addr} (n : New X pins H b) : Off X pins H b := ⟨n.hn, n.h0, n.hL, n.hc, n.hp⟩
section
variable {X : Cx} {pins : List (Addr × Obj)} {σ : L2.St} {H : Hp} {s : Shared}
theorem inv_kp {h1 : Heap} {ch : List Addr} (I : Inv X pins σ H s) (hst : X.stack = X.env :: X.outer) (hfr : X.env.frame = some X.env.locals) (hex : X.ex = []) (k : Kp (frs X.stack) ch s.heap h1) (hc : ∀ b ∈ ch, Off X pins H b) :
    Inv X pins σ H { s with heap := h1 } := by
  have u := un_kp I hst hfr hex k fun b hb => (hc b hb).h0
  have cel : ∀ {x : Str} {c : Addr} {v : Option Value}, X.env.cells.lookup x = some c → s.heap.IsCell c v → h1.IsCell c v := fun {x c v} e z => by
    obtain ⟨o, e1, e2⟩ := z
    obtain ⟨sl, e3⟩ := k.slot c o e1 fun m => (hc c m).hc x c e rfl
    exact ⟨_, e3, e2⟩
  refine ⟨I.ok, I.os, I.bare, ?_, ?_, fun x c e => ?_, I.free, I.freeC, fun p hp => ?_, hok_kp I k fun b hb => (hc b hb).hn, I.len⟩
  · rw [hex]; exact u
  · obtain ⟨m, ⟨o, es, ep, e1, e2, r⟩, hl⟩ := I.loc
    obtain ⟨sl, e3⟩ := k.slot _ o e1 fun z => (hc _ z).hL rfl
    refine ⟨m, ⟨_, es, ep, e3, e2, r⟩, fun i x v a1 a2 a3 => ?_⟩
    obtain ⟨u', r', q⟩ := hl i x v a1 a2 a3
    refine ⟨u', r', ?_⟩
    rcases q with q | ⟨q1, c, q2, q3⟩
    · exact .inl q
    · exact .inr ⟨q1, c, q2, cel q2 q3⟩
  · obtain ⟨v, z⟩ := I.cell x c e
    exact ⟨v, cel e z⟩
  · obtain ⟨p1, p2, p3, p4, p5⟩ := I.pin p hp
    refine ⟨k.keep _ _ p1 (fun m => (hc _ m).hp p hp rfl) fun m => ?_, p2, p3, p4, p5⟩
    rw [hst, frs_cons hfr] at m
    rcases List.mem_cons.mp m with m | m
    · exact p3 m
    · exact p4 m
/-- no slot is known -/
def blank (X : Cx) : L2.St := List.replicate X.N.length none
theorem blank_none (X : Cx) {i : Nat} {v : V} : (blank X)[i]? ≠ some (some v) := by
  unfold blank
  rw [List.getElem?_replicate]
  split <;> intro z <;> cases z
theorem Inv.blank (I : Inv X pins σ H s) : Inv X pins (blank X) H s := I.weak (by unfold EX.blank; rw [List.length_replicate, I.len]) fun i v e => absurd e (blank_none X)
/-- a name of the frame is gone -/
theorem inv_gone {h1 : Heap} {m : Str → Option Value} {t : Nat} (I : Inv X pins σ H s) (hn : h1.Ns X.env.locals m) (hs : Heap.SameBut X.env.locals s.heap h1) : Inv X pins (EX.blank X) H { s with heap := h1, toks := t } := by
  have ne : ∀ b o, X.s_0.heap.get? b = some o → b ≠ X.env.locals := fun b o e => Nat.ne_of_lt (Nat.lt_of_lt_of_le (Heap.lt_size e) I.ok.above)
  refine ⟨I.ok, I.os, I.bare, ⟨fun b o e n hb hx => (hs.2 b (ne b o e)).trans (I.base.keep b o e n hb hx), fun b o e n hb hx => ?_, I.base.free, fun b o e hx => ?_, I.base.tups, I.base.frzs, I.base.tbls⟩, ⟨m, hn, fun i x v _ e _ => absurd e (blank_none X)⟩,
    fun x c e => ?_, I.free, I.freeC, fun p hp => ?_, fun a o e => (I.hok a o e).stay (fun b u hb q => (hs.2 b ?_).trans q) (fun _ q => q) fun _ _ q => q, by unfold EX.blank; rw [List.length_replicate]⟩
  · obtain ⟨sl, z⟩ := I.base.slot b o e n hb hx
    exact ⟨sl, (hs.2 b (ne b o e)).trans z⟩
  · obtain ⟨o', z⟩ := I.base.there b o e hx
    exact ⟨o', (hs.2 b (ne b o e)).trans z⟩
  · obtain ⟨v, z⟩ := I.cell x c e
    exact ⟨v, z.sameBut hs (I.cne x c e)⟩
  · obtain ⟨p1, p2, p3, p4⟩ := I.pin p hp
    exact ⟨(hs.2 _ p3).trans p1, p2, p3, p4⟩
  · rintro rfl
    rcases hb with rfl | hb
    · rw [I.free] at e; cases e
    · rw [I.free] at hb; cases hb

/-! ### the except suite's context, the try body's -/
abbrev XS (X : Cx) (ea : Addr) : Cx := { X with A := X.A.mark (some (.ref ea)), calm := false, xe := fun _ _ => False }
abbrev XB (X : Cx) (pins : List (Addr × Obj)) (E : Value → Shared → Prop) : Cx := { X with pn := X.pn ++ pins, xe := E }
theorem Inv.toS (I : Inv X pins σ H s) (ea : Addr) : Inv (XS X ea) pins σ H s :=
  ⟨⟨I.ok.mod, I.ok.kind, I.ok.glob, I.ok.blt, I.ok.above, I.ok.inj, I.ok.has, I.ok.cab, (fun h => by cases h), I.ok.frames, I.ok.stk, I.ok.exf, I.ok.bs, I.ok.bsz, I.ok.noex, I.ok.exfs, I.ok.funs, I.ok.frf⟩, I.os, I.bare, I.base, I.loc, I.cell, I.free, I.freeC, I.pin, I.hok, I.len⟩
theorem Inv.ofS {ea : Addr} (ok : X.Ok) (I : Inv (XS X ea) pins σ H s) : Inv X pins σ H s := ⟨ok, I.os, I.bare, I.base, I.loc, I.cell, I.free, I.freeC, I.pin, I.hok, I.len⟩
theorem Inv.toB (I : Inv X pins σ H s) (E : Value → Shared → Prop) : Inv (XB X pins E) [] σ H s :=
  ⟨⟨I.ok.mod, I.ok.kind, I.ok.glob, I.ok.blt, I.ok.above, I.ok.inj, I.ok.has, I.ok.cab, I.ok.hd, I.ok.frames, I.ok.stk, I.ok.exf, I.ok.bs, I.ok.bsz, I.ok.noex, I.ok.exfs, I.ok.funs, I.ok.frf⟩, I.os, I.bare, I.base, I.loc, I.cell, I.free, I.freeC, fun p hp => I.pin p (by rw [List.append_nil] at hp; exact hp), I.hok, I.len⟩
theorem Inv.ofB {E : Value → Shared → Prop} {pins' : List (Addr × Obj)} (ok : X.Ok) (I : Inv (XB X pins E) pins' σ H s) : Inv X pins σ H s :=
  ⟨ok, I.os, I.bare, I.base, I.loc, I.cell, I.free, I.freeC, fun p hp => I.pin p (List.mem_append_left _ hp), I.hok, I.len⟩
/-- a caught exception: its class, its dict -/
def XE (ea C dx : Addr) : HO := .ext fun h => ∃ vs sl, h.get? ea = some (xob C (some dx) vs sl)
theorem xe_ok {P : Program} {w : World} {H : Hp} {h : Heap} {ea C dx : Addr} (e : ∃ vs sl, h.get? ea = some (xob C (some dx) vs sl)) : ObjOk P w H h ea (XE ea C dx) := by
  obtain ⟨vs, sl, e⟩ := e
  exact ⟨⟨vs, sl, e⟩, ⟨_, e⟩, fun h1 h2 ⟨vs, sl, a⟩ k => ⟨vs, sl, k _ a⟩⟩

/-- an exception that a try has caught: its handlers are asked -/
structure AtH (X : Cx) (pins : List (Addr × Obj)) (H : Hp) (s : Shared) (ea T C : Addr) (d : Option Addr) : Prop where
  inv : Inv X pins (EX.blank X) H s
  fly : Fly s.heap ea T C d .none
  oe : Off X pins H ea
  oT : Off X pins H T
  fe : ea ∉ frs X.stack
  hd : ∀ dx, d = some dx → ∃ fs, H dx = some (.xd fs)

theorem exc_other {M : Model} {A : Around} {E : Value → Shared → Prop} {h : Heap} {g : Array GenState} {d : Drawn} {t : Nat} {os : OsState} {e C D : Addr} {oe : Obj} {Q : Bool → Shared → Prop} {K : PySem.W.Frag} (X : K.In h)
    (kC : XK1 K C) (kD : XK1 K D) (he : h.get? e = some oe) (hcls : oe.cls = .ref C) (hne : C ≠ D)
    (hq : Q false ⟨h, g, d, t, os⟩) : wpAny M A (excMatches (.ref e) (.ref D)) Q E ⟨h, g, d, t, os⟩ := by
  obtain ⟨nm, q, N, bs, sn, sub, ab, col, dd, k0, k1, k2, k3, k5, lC⟩ := kC
  obtain ⟨nm', q', N', bs', sn', sub', ab', col', dd', k0', k1', k2', k3', k5', lD⟩ := kD
  have hC := X _ _ lC
  have hD := X _ _ lD
  have hcB : (Value.ref D :: bmX).contains (.type "BaseException") = true := by rw [List.contains_cons, show bmX.contains (.type "BaseException") = true by decide, Bool.or_true]
  have hcC : (Value.ref C :: bmX).contains (.ref D) = false := by
    have : (Value.ref D == Value.ref C) = false := by
      rw [beq_eq_false_iff_ne]
      intro z
      cases z
      exact hne rfl
    rw [List.contains_cons, this]
    rfl
  have f := tc_notTuple
  unfold excMatches
  repeat (first | (with_reducible refine wpAny_loadPart_at he ?_; rw [hcls]) | with_reducible refine wpAny_loadPart_at hD ?_ | (with_reducible refine wpAny_isSubtype_exc hD ?_; rw [hcB]) | (with_reducible refine wpAny_isSubtype_exc hC ?_; rw [hcC]) | wp_step)
  exact hq

section
variable {C C1 ea T i : Addr} {d : Option Addr} {n x : Str} {p pos : Pos} {b0 : Stmt} {suite : List Stmt} {rest : List ExceptHandler} {th : TS} {D : Ends}
/-- a handler of another class -/
theorem hb_skip {nm : Option Str} (a : AtH X pins H s ea T C d) (hg : Gl X x) (hm : X.mg x = some (.ref C1)) (kC : XK1 X.K C) (k1 : XK1 X.K C1) (hne : C ≠ C1)
    (h : wpAny (model X.prog X.w) X.A (handleBy (.ref ea) X.env rest) (SP X pins D) X.xe s) (hdb : (x == ("__debug__" : Str)) = false := by decide) :
    wpAny (model X.prog X.w) X.A (handleBy (.ref ea) X.env (.ExceptHandler (some (.Name x p)) nm (b0 :: suite) pos :: rest)) (SP X pins D) X.xe s := by
  obtain ⟨vs2, sl2, e2, _⟩ := a.fly.obj
  refine wpAny_handleBy_cons (codeAny_handlers_test (ld_glob (X := XS X ea) (Inv.toS a.inv ea) hg hm ?_ hdb)) (by intro z; cases z)
  have KX := a.inv.kIn
  obtain ⟨hp, g, dr, tk, os⟩ := s
  exact exc_other KX kC k1 e2 rfl hne h
theorem hit {Q : Bool → Shared → Prop} {A : Around} {E : Value → Shared → Prop} (a : AtH X pins H s ea T C d) (kC : XK1 X.K C) (h : Q true s) : wpAny (model X.prog X.w) A (excMatches (.ref ea) (.ref C)) Q E s := by
  obtain ⟨vs2, sl2, e2, _⟩ := a.fly.obj
  obtain ⟨nm, q, N, bs, sn, sub, ab, col, dd, k0, k1', k2', k3, k5, c1⟩ := kC
  have KX := a.inv.kIn
  obtain ⟨hp, g, dr, tk, os⟩ := s
  exact wpAny_excMatches_sub_self (KX _ _ c1) e2 rfl (by decide) h
theorem landed (a : AtH X pins H s ea T C d) (hst : X.stack = X.env :: X.outer) (hfr : X.env.frame = some X.env.locals) (hex : X.ex = []) {h3 : Heap} (f3 : Fly h3 ea T C d .none) (k3 : Kp (frs X.stack) [T] s.heap h3) : AtH X pins H { s with heap := h3 } ea T C d :=
  ⟨inv_kp a.inv hst hfr hex k3 (fun b hb => by rw [List.mem_singleton.mp hb]; exact a.oT), f3, a.oe, a.oT, a.fe, a.hd⟩
/-- except x as n: a suite that returns -/
theorem hb_as {dx : Addr} (a : AtH X pins H s ea T C (some dx)) (kC : XK1 X.K C) (hst : X.stack = X.env :: X.outer) (hfr : X.env.frame = some X.env.locals) (hex : X.ex = []) (hg : Gl X x) (hm : X.mg x = some (.ref C)) (hN : X.N.Nodup) (hi : X.N[i]? = some n) (hl : X.env.scope.names.lookup n = some .local)
    (hs : ∀ ea, PSs (XS X ea) (b0 :: suite) th) (hE : ∀ ea, H ea = none → ea ≠ dx → th { nx := fun _ _ => False, rt := D.rt } ((EX.blank X).set i (some (.ref ea))) (upd H ea (XE ea C dx))) (hdb : (x == ("__debug__" : Str)) = false := by decide) :
    wpAny (model X.prog X.w) X.A (handleBy (.ref ea) X.env (.ExceptHandler (some (.Name x p)) (some n) (b0 :: suite) pos :: rest)) (SP X pins D) X.xe s := by
  refine wpAny_handleBy_cons (codeAny_handlers_test (ld_glob (X := XS X ea) (Inv.toS a.inv ea) hg hm (hit a kC ?_) hdb)) (by intro z; cases z)
  refine codeAny_handlers_suite_as ?_
  refine land_ (fs := frs X.stack) a.fly fun h3 f3 k3' => ?_
  have a3 := landed a hst hfr hex f3 k3'
  obtain ⟨vs3, sl3, e3, _⟩ := f3.obj
  have I4 := track (a := ea) (o := XE ea C dx) a3.inv ⟨a.oe.hn, a.oe.h0, a.oe.hL, a.oe.hc, a.oe.hp, a.fe⟩ (xe_ok ⟨vs3, sl3, e3⟩)
  have hd : ea ≠ dx := fun z => by
    obtain ⟨fs, hf⟩ := a.hd dx rfl
    rw [← z, a.oe.hn] at hf
    cases hf
  refine store_ok (X := XS X ea) (v := .ref ea) (Inv.toS I4 ea) hN hi (.inl hl) rfl (fun s5 I5 => ?_) (.inr hl)
  refine wpAny_mono (hs ea pins s5 _ _ { nx := fun _ _ => False, rt := D.rt } I5 (hE ea a.oe.hn hd)) (fun fl s6 h6 => ?_) fun _ _ z => z.elim
  cases fl with
  | ret u =>
    obtain ⟨v, σ6, H6, I6, r6, q6⟩ := h6
    have I7 : Inv X pins σ6 H6 s6 := Inv.ofS a.inv.ok I6
    obtain ⟨m6, n6, _⟩ := I7.loc
    refine wpAny_nameGoes hl n6 (by rw [a.inv.ok.kind]; rfl) fun h7 m7 n7 sb7 => ?_
    exact ⟨v, _, H6, inv_gone I7 n7 sb7, r6, q6⟩
  | next => obtain ⟨_, _, _, z⟩ := h6; exact z.elim
  | brk => obtain ⟨_, _, _, z⟩ := h6; exact z.elim
  | cont => obtain ⟨_, _, _, z⟩ := h6; exact z.elim
/-- except x: a suite that returns -/
theorem hb_one (a : AtH X pins H s ea T C d) (kC : XK1 X.K C) (hst : X.stack = X.env :: X.outer) (hfr : X.env.frame = some X.env.locals) (hex : X.ex = []) (hg : Gl X x) (hm : X.mg x = some (.ref C))
    (hs : ∀ ea, PSs (XS X ea) (b0 :: suite) th) (hE : th { nx := fun _ _ => False, rt := D.rt } (EX.blank X) H) (hdb : (x == ("__debug__" : Str)) = false := by decide) :
    wpAny (model X.prog X.w) X.A (handleBy (.ref ea) X.env (.ExceptHandler (some (.Name x p)) none (b0 :: suite) pos :: rest)) (SP X pins D) X.xe s := by
  refine wpAny_handleBy_cons (codeAny_handlers_test (ld_glob (X := XS X ea) (Inv.toS a.inv ea) hg hm (hit a kC ?_) hdb)) (by intro z; cases z)
  refine codeAny_handlers_suite ?_
  refine land_ (fs := frs X.stack) a.fly fun h3 f3 k3' => ?_
  have a3 := landed a hst hfr hex f3 k3'
  refine wpAny_mono (hs ea pins _ _ _ { nx := fun _ _ => False, rt := D.rt } (Inv.toS a3.inv ea) hE) (fun fl s6 h6 => ?_) fun _ _ z => z.elim
  cases fl with
  | ret u =>
    obtain ⟨v, σ6, H6, I6, r6, q6⟩ := h6
    exact ⟨v, σ6, H6, Inv.ofS a.inv.ok I6, r6, q6⟩
  | next => obtain ⟨_, _, _, z⟩ := h6; exact z.elim
  | brk => obtain ⟨_, _, _, z⟩ := h6; exact z.elim
  | cont => obtain ⟨_, _, _, z⟩ := h6; exact z.elim
end
theorem atH_of {ea T C : Addr} {d : Option Addr} {Q : Flow → Shared → Prop} {g : Sem Flow} (I : Inv X pins σ H s) (hst : X.stack = X.env :: X.outer) (hfr : X.env.frame = some X.env.locals) (hex : X.ex = []) (oe : Off X pins H ea) (oT : Off X pins H T) (hfe : ea ∉ frs X.stack)
    (hf : Fly s.heap ea T C d .none) (hd : ∀ dx, d = some dx → ∃ fs, H dx = some (.xd fs))
    (h : ∀ s3 T1, AtH X pins H s3 ea T1 C d → wpAny (model X.prog X.w) X.A g Q X.xe s3) :
    wpAny (model X.prog X.w) X.A (noteFrame (.ref ea) X.env) (fun _ s2 => wpAny (model X.prog X.w) X.A (setFlight (.ref ea) none) (fun _ s3 => wpAny (model X.prog X.w) X.A g Q X.xe s3) X.xe s2) X.xe s := by
  have hF : X.A.frames = some (X.env :: X.outer) := by rw [← hst]; exact I.ok.frames
  have hL : s.heap.FunFrames X.base (X.env :: X.outer) := by rw [← hst]; exact I.stack
  have Ib := Inv.blank I
  refine note_next hF hL hfr hf fun h1 T1 f1 nT k1 => ?_
  rw [← hst] at k1
  refine land_ (fs := frs X.stack) (s := { s with heap := h1 }) f1 fun h2 f2 k2 => ?_
  have oT1 : Off X pins H T1 := (new_of I hex nT).off
  have I2 : Inv X pins (EX.blank X) H { s with heap := h2 } := inv_kp Ib hst hfr hex (k1.trans k2) fun b hb => by
    rcases List.mem_append.mp hb with hb | hb
    · rcases List.mem_cons.mp hb with rfl | hb
      · exact oT
      · rw [List.mem_singleton.mp hb]; exact oe
    · rw [List.mem_singleton.mp hb]; exact oT1
  exact h _ T1 ⟨I2, f2, oe, oT1, hfe, hd⟩

def tTry (W : Ends → XK) (tb : XK → TS) : TS := fun D σ H => tb (W D) D σ H
/-- try: body except ..: suites; W: what is wanted of an exception that comes out of the body -/
theorem ps_try {tpos : Pos} {h0 : ExceptHandler} {hs : List ExceptHandler} {body : List Stmt} {tb : XK → TS} {W : Ends → XK}
    (hst : X.stack = X.env :: X.outer) (hfr : X.env.frame = some X.env.locals) (hex : X.ex = [])
    (hb : ∀ (pins : List (Addr × Obj)) (E1 : Value → Shared → Prop) (Ew : XK), Passes (CXF X.prog X.w) (XB X pins E1) Ew → PSs (XB X pins E1) body (tb Ew))
    (hh : ∀ (pins : List (Addr × Obj)) (D : Ends) (H : Hp) (s : Shared) (ea T C : Addr) (d : Option Addr), AtH X pins H s ea T C d → W D (.ref C) d H → wpAny (model X.prog X.w) X.A (handleBy (.ref ea) X.env (h0 :: hs)) (SP X pins D) X.xe s) :
    PS X (.Try body (h0 :: hs) [] [] tpos) (tTry W tb) := by
  intro pins s σ H D I h
  have hok := I.ok
  refine wpAny_Try_except ?_
  have pass : Passes (CXF X.prog X.w) (XB X pins fun e s1 => wpAny (model X.prog X.w) X.A (noteFrame e X.env) (fun _ s2 => wpAny (model X.prog X.w) X.A (setFlight e none) (fun _ s3 =>
      wpAny (model X.prog X.w) X.A (handleBy e X.env (h0 :: hs)) (SP X pins D) X.xe s3) X.xe s2) X.xe s1) (W D) := by
    intro pins' σ' H' s' e s'' I' q
    obtain ⟨ea, T, C', d, H2, rfl, h1, h2, h3, h4, h5, h6, h7, h8, h9, h10, h11⟩ := q
    have I2 := I'.call' (ch := []) h1 h3 h4 h2 (fun b z => absurd z (by simp))
    have J' : Inv X pins σ' H' s' := Inv.ofB hok I'
    have J2 : Inv X pins σ' H2 s'' := Inv.ofB hok I2
    have Ne := new_of J' hex h8
    have NT := new_of J' hex h9
    exact atH_of J2 hst hfr hex ⟨h6, Ne.h0, Ne.hL, Ne.hc, Ne.hp⟩ ⟨h7, NT.h0, NT.hL, NT.hc, NT.hp⟩ Ne.hf h5 h10 fun s3 T1 a => hh pins D H2 s3 ea T1 C' d a h11
  refine wpAny_mono (hb pins _ _ pass [] s σ H D (Inv.toB I _) h) (fun f s1 q => ?_) fun _ _ z => z
  cases f with
  | next =>
    obtain ⟨σ', H', I', q⟩ := q
    exact wpAny_execs_nil ⟨σ', H', Inv.ofB hok I', q⟩
  | ret u =>
    obtain ⟨v, σ', H', I', r, q⟩ := q
    exact ⟨v, σ', H', Inv.ofB hok I', r, q⟩
  | brk =>
    obtain ⟨σ', H', I', q⟩ := q
    exact ⟨σ', H', Inv.ofB hok I', q⟩
  | cont =>
    obtain ⟨σ', H', I', q⟩ := q
    exact ⟨σ', H', Inv.ofB hok I', q⟩
end
end EX
end

section
set_option Elab.async false
set_option linter.all false
set_option maxRecDepth 100000
namespace EX
open PySem PySem.Spec PyProof.Rows L2
open Builtin Builtin.ObjectAttr
open PySem.W (Looks)

/-- what is asked of an exception's class where its fields are read -/
structure XG (K : PySem.W.Frag) (C : Addr) : Prop where
  ga : PySem.W.findIn K (.ref C) "__getattribute__" = some (some (.builtin "BaseException.__getattribute__"))
  gh : PySem.W.findIn K (.ref C) "__getattr__" = some none
  hd : PySem.W.hasDictIn K C = true
  sub : PySem.W.mroIn K C (.type "BaseException") = some true
theorem ga_kind : builtinKind "BaseException.__getattribute__" = some .slot := by decide +kernel
theorem ga_split : splitId "BaseException.__getattribute__" = some ("BaseException", "__getattribute__") := by decide +kernel
theorem ga_slot : Slot "Exception" "__getattribute__" "BaseException.__getattribute__" :=
  .of (owner := "BaseException") (n := "__getattribute__") (by rw [typeLookup_type, builtinLookup_eq_fast]; kernel_rfl) (by decide +kernel) (by decide +kernel) (by decide +kernel)
    (by first | exact .inl (by decide +kernel) | exact .inr (by decide +kernel)) (by rw [isSubtype_type]; kernel_rfl)
section
variable {X : Cx} {pins : List (Addr × Obj)} {σ : L2.St} {H : Hp} {s : Shared} {ea C dx : Addr} {fs : List (Str × V)} {f : Str} {v : V} {A : Around} {E : Value → Shared → Prop}
theorem xget_ok {b : Bool} {Q : Value → Shared → Prop} (I : Inv X pins σ H s) (e : H ea = some (XE ea C dx)) (ed : H dx = some (.xd fs)) (g : XG X.K C) (n : NoAttr X.K C f) (l : fs.lookup f = some v)
    (h : ∀ u s', Inv X pins σ H s' → RelV v u → Q u s') : wpAny (model X.prog X.w) A (getAttr (.ref ea) f b) Q E s := by
  obtain ⟨⟨vs, sl, e1⟩, _⟩ := (show ObjOk X.prog X.w H s.heap ea (XE ea C dx) from I.hok ea _ e)
  obtain ⟨mA, n1, r⟩ := (show ObjOk X.prog X.w H s.heap dx (.xd fs) from I.hok dx _ ed)
  obtain ⟨u, hu, ru⟩ := RelO.some_of (v := v) (o := mA f) (by rw [← l]; exact r f)
  obtain ⟨od, ho, hl⟩ := lookIn_ns n1
  have J : PySem.W.InstAt s.heap ea (xob C (some dx) vs sl) C (some od) := ⟨e1, rfl, rfl, ho⟩
  have hf : PySem.W.findObj X.K C (some od) f = some (.value u) := PySem.W.findObj_own g.hd n rfl (by rw [hl, hu])
  have KX := I.kIn
  have hQ := h u { s with toks := s.toks + 1 } (I.tok _) ru
  obtain ⟨hp, gg, d, tk, os⟩ := s
  have L0 : Looks (model X.prog X.w) hp (typeOf (.ref ea)) (.ref C) := J.type
  have L1 : Looks (model X.prog X.w) hp (typeLookup (.ref C) "__getattribute__") (some (.builtin "BaseException.__getattribute__")) := PySem.W.looks_findIn KX g.ga
  have L2 : Looks (model X.prog X.w) hp (typeLookup (.ref C) "__getattr__") none := PySem.W.looks_findIn KX g.gh
  have L3 : Looks (model X.prog X.w) hp (find (.ref ea) (.ref C) f) (.value u) := PySem.W.looks_find KX J hf
  have L4 : Looks (model X.prog X.w) hp (isInstance (.ref ea) (.type "BaseException")) true := L0.andThen (PySem.W.looks_mroIn KX g.sub)
  unfold getAttr getAttrBy
  refine wpAny_bind (wpAny_mkText (wpAny_holding (wpAny_bind (L0.at (wpAny_bind (L1.at ?_))))))
  show wpAny _ _ (getAttrByItsOwn _ _ _ _ _ _) _ _ _
  unfold getAttrByItsOwn
  refine wpAny_bind (L2.at (wpAny_bind (wpAny_attempt (wpAny_holding ?_))))
  have hx0 : (b && onTheHeap (Value.builtin "BaseException.__getattribute__")) = false := by cases b <;> rfl
  unfold callGetattribute
  rw [hx0, if_neg (by decide)]
  unfold boundAndCalled
  rw [ga_slot.bind]
  refine wpAny_bind (wpAny_pure ?_)
  refine wpAny_call (codeAny_call_builtin ga_slot.plain PySem.F.entry_bexc_ga (@PySem.W.check_slot (model X.prog X.w) _ _ ⟨hp, gg, d, tk + 1, os⟩ "BaseException.__getattribute__" "BaseException" "__getattribute__" (.ref ea) [.str f tk] [] _ ga_kind ga_split L4 (PySem.F.args_bexc_ga _ _) ?_))
  unfold Builtin.«object.__getattribute__»
  repeat lk
  show wpAny _ _ (handedOut u) _ _ _
  rw [PySem.W.handedOut_of (handed_of ru)]
  exact wpAny_pure hQ
/-- e.f, a field of a caught exception -/
def tXf (K : PySem.W.Frag) (ta : TE) (f : Str) : TE := fun σ H Q => ta σ H fun x H1 => ∃ ea C dx fs v, x = .ref ea ∧ H1 ea = some (XE ea C dx) ∧ H1 dx = some (.xd fs) ∧ XG K C ∧ NoAttr K C f ∧ fs.lookup f = some v ∧ Q v H1
theorem pe_xf {e : Expr} {pos : Pos} {ta : TE} (he : PE X e ta) (hb : attributeBase e f X.env (eval e X.env) = eval e X.env) : PE X (.Attribute e f pos) (tXf X.K ta f) := by
  intro pins s σ H Q I h
  refine attr_of hb (thn (he pins s σ H _ I h) fun u s1 ⟨x, H1, I1, rx, a, C, dx, fs, v, ex, ea, ed, c, n, l, q⟩ => ?_)
  subst ex
  obtain rfl : u = Value.ref a := rx
  exact xget_ok I1 ea ed c n l fun u' s2 I2 ru => ⟨v, H1, I2, ru, q⟩
end

/-! ### a def that is called within an except suite: it raises nothing -/
section
variable {P : Program} {w : World} {K : PySem.W.Frag} {mg : Str → Option Value} {base : Heap} {N ps : List Str} {qual x : Str} {f : Addr} {st : Stmt} {fd : FuncData} {k : Nat} {sp : Sp}
end
section
variable {X : Cx} {k : Nat} {f : Addr} {fd : FuncData} {ps : List Str} {sp : Sp} {x : Str} {p pos : Pos} {e : Expr} {es : List Expr} {t : TA}
end
end EX
end

section
set_option Elab.async false
set_option linter.all false
set_option maxRecDepth 100000
namespace LM
open PySem PySem.Spec PyProof.Rows L2 EX

/-- a lambda's function object over the base; its captured names N hold vs -/
structure Lam (base : Heap) (f : Addr) (fd : FuncData) (qual : Str) (params : Arguments) (body : Expr) (scope : Scope) (cl : List (Str × Addr)) (cd : Value) (N : List Str) (vs : List V) : Prop where
  ex : ∃ (oc : Value) (od : Option Addr) (sl : Array (Option Value)) (pm ctv : Value), fd = PySem.W.kla_fn "<lambda>" qual params body scope cl pm cd ctv ∧ base.get? f = some ⟨oc, od, .func fd, sl⟩
  rec_ : base.CodeRec cd qual
  inj : ∀ x y c, cl.lookup x = some c → cl.lookup y = some c → x = y
  has : ∀ x, scope.names.lookup x = some .free → ∃ c, cl.lookup x = some c
  cell : ∀ x c, cl.lookup x = some c → ∃ v, base.IsCell c v
  at_ : ∀ (i : Nat) x v, N[i]? = some x → vs[i]? = some v → ∃ c u, cl.lookup x = some c ∧ base.IsCell c (some u) ∧ RelV v u
  len : vs.length = N.length
/-- what is asked of its text -/
structure LScope (N : List Str) (scope : Scope) : Prop where
  kind : scope.kind = .function
  co : scope.isCoroutine = false
  gen : scope.isGenerator = false
  names : ∀ x ∈ scope.names, x.2 = .free ∨ x.2 = .globalImplicit
  free : ∀ x ∈ N, scope.names.lookup x = some .free

/-- the context of a lambda's body -/
def cxL (P : Program) (w : World) (K : PySem.W.Frag) (mg : Str → Option Value) (base : Heap) (N : List Str) (qual : Str) (scope : Scope) (f : Addr) (cd : Value) (cl : List (Str × Addr)) (A : Around) (outer : List Env) (s : Shared) (H : Hp) (E : XK) : Cx where
  prog := P
  w := w
  K := K
  mg := mg
  base := base
  A := A.deeper (PySem.W.envX qual scope s.heap.objs.size f cd cl)
  N := N
  s_0 := s
  H_0 := H
  env := PySem.W.envX qual scope s.heap.objs.size f cd cl
  outer := outer
  stack := PySem.W.envX qual scope s.heap.objs.size f cd cl :: outer
  ex := []
  calm := true
  fn := fun _ => false
  pn := []
  xe := fun e s' => wpAny (model P w) (A.deeper (PySem.W.envX qual scope s.heap.objs.size f cd cl)) (leaving (PySem.W.envX qual scope s.heap.objs.size f cd cl) e) (fun _ s'' => CXF P w outer H s E e s'') (fun e' s'' => CXF P w outer H s E e' s'') s'
section
variable {P : Program} {w : World} {K : PySem.W.Frag} {mg : Str → Option Value} {base : Heap} {N : List Str} {qual : Str} {scope : Scope} {f : Addr} {cd : Value} {cl : List (Str × Addr)} {A : Around} {outer : List Env} {s : Shared} {H : Hp} {E : XK}
  {fd : FuncData} {params : Arguments} {body : Expr} {vs : List V}
theorem inv_lam {h1 : Heap} {t : Nat} (S : LScope N scope) (hd : A.handled = none) (e0 : Env0 P w K mg base A outer s H) (L : Lam base f fd qual params body scope cl cd N vs) (hn : h1.Ns s.heap.objs.size fun _ => none)
    (hk : ∀ b o, s.heap.get? b = some o → h1.get? b = some o) : Inv (cxL P w K mg base N qual scope f cd cl A outer s H E) [] (vs.map some) H { s with heap := h1, toks := t } := by
  have noA : ∀ b : Addr, b ∉ (cxL P w K mg base N qual scope f cd cl A outer s H E).ex := fun b z => absurd (show b ∈ ([] : List Addr) from z) (by simp)
  have cb : ∀ {c : Addr} {v : Option Value}, base.IsCell c v → s.heap.IsCell c v ∧ H c = none := fun {c v} ⟨o, e1, e2⟩ => ⟨⟨o, (e0.bs c o e1).1, e2⟩, (e0.bs c o e1).2⟩
  have ck : ∀ {c : Addr} {v : Option Value}, base.IsCell c v → h1.IsCell c v := fun {c v} z => let ⟨⟨o, e1, e2⟩, _⟩ := cb z; ⟨o, hk c o e1, e2⟩
  refine ⟨⟨e0.mod, S.kind, rfl, rfl, Nat.le_refl _, L.inj, fun y hy => ?_, (fun y c z _ => absurd (show false = true from z) (by decide)), fun _ => hd, Around.frames_deeper e0.frames, .inr ⟨rfl, rfl⟩, fun b z => absurd z (noA b), e0.bs, e0.bsz, fun b _ _ => noA b, fun b z => absurd z (noA b), e0.funs, e0.frf⟩,
    rfl, e0.bare, Un.kept hk, ⟨_, hn, fun i y v h1 h2 h3 => ?_⟩, fun y c h => ?_, e0.hok.fresh (Nat.le_refl _), fun y c h => ?_, fun p hp => absurd (show p ∈ ([] : List (Addr × Obj)) from hp) (by simp), e0.hok.kept hk, ?_⟩
  · have hy : scope.names.lookup y = some .cell ∨ scope.names.lookup y = some .free := hy
    rcases hy with hy | hy
    · rcases S.names _ (PySem.mem_of_lookup hy) with z | z <;> cases z
    · exact L.has y hy
  · rw [List.getElem?_map] at h2
    cases e : vs[i]? with
    | none => rw [e] at h2; cases h2
    | some a =>
      rw [e] at h2
      cases h2
      obtain ⟨c, u, q1, q2, q3⟩ := L.at_ i y _ h1 e
      exact ⟨u, q3, .inr ⟨.inr (S.free y (List.mem_of_getElem? h1)), c, q1, ck q2⟩⟩
  · obtain ⟨v, z⟩ := L.cell y c h
    exact ⟨v, ck z⟩
  · obtain ⟨v, z⟩ := L.cell y c h
    exact (cb z).2
  · rw [List.length_map]; exact L.len
theorem passes_lam : Passes (CXF P w) (cxL P w K mg base N qual scope f cd cl A outer s H E) E := by
  intro pins σ H' s1 e s' I h
  obtain ⟨ea, T, C, dx, H2, rfl, h1, h2, h3, h4, h5, h6, h7, h8, h9, h10, h11⟩ := h
  have I' : Inv (cxL P w K mg base N qual scope f cd cl A outer s H E) pins σ H2 s' := I.call' (ch := []) h1 h3 h4 h2 (fun b z => absurd z (by simp))
  exact leave_here I' rfl rfl rfl ⟨⟨h6, (nones I rfl h8).2⟩, .inr ⟨T, h5, h7, (nones I rfl h9).2⟩⟩ h10 h11
/-- THE RULE for a lambda (no parameters) -/
theorem okL {k : Nat} {sp : Sp} (L : Lam base f fd qual params body scope cl cd N vs) (S : LScope N scope) (len : ∀ vs H Q E, sp vs H Q E → vs.length = 0)
    (hbody : ∀ (A : Around) (outer : List Env) (s : Shared) (H : Hp) (Q : VK) (E : XK), Room k (A.deeper (PySem.W.envX qual scope s.heap.objs.size f cd cl)) → sp [] H Q E →
      ∃ t, PE (cxL P w K mg base N qual scope f cd cl A outer s H E) body t ∧ t (vs.map some) H Q) : FnOk P w K mg base (CXF P w) (k + 1) f fd [] sp := by
  obtain ⟨oc, od, sl, pm, ctv, rfl, ho⟩ := L.ex
  refine ⟨len, fun A outer s H args us vs' Q E hr e0 hb r hsp => ?_⟩
  have hl := len _ _ _ _ hsp
  obtain rfl : vs' = [] := List.eq_nil_of_length_eq_zero hl
  have lim : s.heap.NoLimit := e0.mod.nolimit.keeps fun b o e => (e0.bs b o e).1
  have rc : s.heap.CodeRec cd qual := by
    obtain ⟨c, o, vs, t, e1, e2, r⟩ := L.rec_
    exact ⟨c, o, vs, t, e1, (e0.bs _ _ e2).1, r⟩
  refine PySem.W.kla_callFunE hr.depth (e0.bs _ _ ho).1 rfl S.co S.gen rfl rc (hb _ _ _ _ ?_)
  refine wpAny_newFunctionEnv (fun x hx => by rcases S.names x hx with z | z <;> rw [z] <;> intro q <;> cases q) (fun x hx => absurd (show x ∈ (([] : List Str).zip us) from hx) (by simp)) (fun h1 hn hs => ⟨lim.fresh _ hs, ?_⟩) S.kind
  have hk : ∀ b o, s.heap.get? b = some o → h1.get? b = some o := fun b o e => hs.extBut b o (Nat.ne_of_lt (Heap.lt_size e)) (Heap.get?_push_of_some _ e)
  obtain ⟨t, ht, hq⟩ := hbody A outer s H Q E (hr.deeper _) hsp
  have I : Inv (cxL P w K mg base N qual scope f cd cl A outer s H E) [] (vs.map some) H { s with heap := h1, toks := s.toks + (([] : List Str).zip us).length } := inv_lam S hr.hd e0 L hn hk
  refine PySem.W.kla_codeExpr (wpAny_mono (ht [] _ _ H _ I hq) (fun v s' hs => ?_) fun e s' hs => hs)
  obtain ⟨v', H', J, rv, q⟩ := hs
  exact ⟨v', H', J.os, J.bare, J.base, J.hok, rv, q⟩
end

section
variable {X : Cx} {CX : CXT} {k : Nat} {f : Addr} {fd : FuncData} {sp : Sp} {E : XK}
def tTell (i : Nat) (f : Addr) (sp : Sp) (E : XK) : TE := fun σ H Q => σ[i]? = some (some (.ref f)) ∧ sp [] H Q E
/-- x(), x a name that holds a function of the base -/
theorem pe_tell {i : Nat} {x : Str} {p pos : Pos} (F : FnOk X.prog X.w X.K X.mg X.base CX k f fd [] sp) (hr : Room k X.A) (hf : PySem.W.FnAt f X.base) (hb : Binds X.K fd [] []) (hx : Passes CX X E) (hi : X.N[i]? = some x := by rfl)
    (hv : Vis X.env.scope x := by first | exact Or.inl rfl | exact Or.inr (Or.inl rfl) | exact Or.inr (Or.inr rfl)) (hd : (x == ("__debug__" : Str)) = false := by decide) (hcd : (x == ("__classdict__" : Str)) = false := by decide) :
    PE X (.Call (.Name x p) [] [] pos) (tTell i f sp E) := by
  intro pins s σ H Q I h
  refine wpAny_Call_Name_kw (thn (pe_var hi hv hd hcd pins s σ H (fun v H' => v = .ref f ∧ sp [] H' Q E) I ⟨_, h.1, rfl, h.2⟩) fun u s1 ⟨v, H1, I1, rv, ev, q⟩ => ?_)
  subst ev
  obtain rfl : u = Value.ref f := rv
  obtain ⟨oc, od, fd', sl, e⟩ := hf
  exact PySem.W.callWith_F0 ⟨oc, od, fd', sl, I1.bk _ _ e⟩ (run_fn (us := []) F hr hb .nil hx I1 .nil q)
end
end LM
end

section
set_option Elab.async false
set_option linter.all false
set_option maxRecDepth 100000
namespace LM
open PySem PySem.Spec PyProof.Rows L2 EX

theorem funs_base {h base base' : Heap} : ∀ {l : List Env}, h.FunFrames base l → (∀ b ∈ frs l, base'.get? b = none) → h.FunFrames base' l
  | [], _, _ => trivial
  | env :: r, ⟨hk, ⟨L, o, hf, hn, ho, hd⟩, hr⟩, hb => by
    refine ⟨hk, ⟨L, o, hf, hb L ?_, ho, hd⟩, funs_base hr fun b m => hb b ?_⟩
    · unfold frs; rw [List.filterMap_cons, hf]; exact List.mem_cons_self
    · unfold frs; rw [List.filterMap_cons, hf]; exact List.mem_cons_of_mem _ m
/-- what stands in the base for an inner call: all but what is tracked, and the frames -/
noncomputable def inH (fs : List Addr) (H : Hp) : Hp := fun b => if b ∈ fs then some (.lst []) else H b
theorem inH_none {fs : List Addr} {H : Hp} {b : Addr} (h : inH fs H b = none) : b ∉ fs ∧ H b = none := by
  unfold inH at h
  split at h
  · cases h
  · exact ⟨by assumption, h⟩
theorem inH_of {fs : List Addr} {H : Hp} {b : Addr} (h1 : b ∉ fs) (h2 : H b = none) : inH fs H b = none := by
  unfold inH; rw [if_neg h1]; exact h2

section
variable {X : Cx} {CX : CXT} {k : Nat} {fA c PT : Addr} {fdA : FuncData} {E : XK} {params : Arguments} {body : Expr} {scope : Scope} {lpos p pos : Pos} {x : Str} {M : List Str}
def tAns (X : Cx) (PT : Addr) (lpos : Pos) (ix : List Nat) (spA : Addr → List V → Sp) (E : XK) : TE := fun σ H Q => ∃ ps vs, H PT = some (.tbl ps) ∧ codeAmong lpos ps.toList = none ∧ TriplesOk ps.toList ∧
  vs.length = ix.length ∧ (∀ (j i : Nat) (v : V), ix[j]? = some i → vs[j]? = some v → σ[i]? = some (some v)) ∧ ∀ f more, H f = none → spA f vs [.ref f] (upd H PT (.tbl (ps ++ more))) Q E
/-- g(lambda: body), the def that writes this runs -/
theorem pe_ans {ix : List Nat} {spA : Addr → List V → Sp} (hC : PySem.W.CodeHd X.base c PT) (hB : X.base.BuiltinsAt X.mg PT) (hcode : X.env.code = .ref c) (hst : X.stack = X.env :: X.outer) (hfr : X.env.frame = some X.env.locals) (hex : X.ex = [])
    (hfn : ∀ x, X.fn x = true) (hdef : defaultsOf params X.env = ([], [])) (S : LScope M scope) (hcel : ∀ y ∈ scope.names, y.2 = .free → X.env.scope.names.lookup y.1 = some .cell)
    (hix : ∀ (j : Nat) (y : Str), M[j]? = some y → ∃ i, ix[j]? = some i ∧ X.N[i]? = some y) (hlx : ix.length = M.length) (huq : ∀ y ∈ scope.names, scope.names.lookup y.1 = some y.2)
    (hg : Gl X x) (hm : X.mg x = some (.ref fA)) (hk : PySem.W.keepIn X.K (.ref fA) = true) (hb : Binds X.K fdA ["tell"] []) (hr : Room k X.A) (hx : Passes CX X E)
    (F : ∀ (base : Heap) (f : Addr) (fd : FuncData) (cl : List (Str × Addr)) (cd : Value) (vs : List V), X.K.In base → base.Ns mainGlobals X.mg → Lam base f fd (X.env.qual ++ "<lambda>") params body scope cl cd M vs →
      FnOk X.prog X.w X.K X.mg base CX k fA fdA ["tell"] (spA f vs))
    (hdb : (x == ("__debug__" : Str)) = false := by decide) (he : starEach [.Lambda params body scope lpos] X.env = (false, eval (.Lambda params body scope lpos) X.env) :: starEach [] X.env := by rfl) :
    PE X (.Call (.Name x p) [.Lambda params body scope lpos] [] pos) (tAns X PT lpos ix spA E) := by
  intro pins s σ H Q I h
  obtain ⟨ps, vs, hT, hnf, hto, hvl, hvs, hsp⟩ := h
  refine wpAny_Call_Name_kw (ld_glob I hg hm ?_ hdb)
  have hfree : ∀ y ∈ scope.names, y.2 = .free → ∃ c, X.env.cells.lookup y.1 = some c := fun y hy e => I.ok.has _ (.inl (hcel y hy e))
  have hP : s.heap.get? PT = some (PySem.W.tabObj ps) := I.hok PT _ hT
  have nbP : ∀ b o, X.base.get? b = some o → b ≠ PT := fun b o e z => by
    have := (I.bs b o e).2
    rw [z, hT] at this
    cases this
  have hgs : s.heap.Ns mainGlobals X.mg := I.ok.mod.glob.keeps I.bk
  have hgP : mainGlobals ≠ PT := by
    obtain ⟨o, es, ep, e, _⟩ := I.ok.mod.glob
    exact nbP _ o e
  have hBs : s.heap.BuiltinsAt X.mg PT := by
    obtain ⟨bm, ob, a1, a2, a3, a4, a5, a6⟩ := hB
    exact ⟨bm, ob, a1, a2, a3, a4, I.bk _ _ a5, a6⟩
  refine PySem.W.callWith_K (h₀ := X.base) (Q := EP X pins σ Q) I.ok.mod.kin hk ?_ he rfl
  rw [he]
  show wpAny _ _ (spliced ((false, eval (.Lambda params body scope lpos) X.env) :: backTo pos (starEach [] X.env))) _ _ s
  refine Calls.spliced_cons (PySem.W.kla_eval hdef (PySem.W.kla_makeFunction (closure_ok hfree) I.ok.glob hgs hcode (hC.keeps I.bk) hP hto hnf hgP hBs fun c' ctv h' tk hx1 hge hlt hrec htb => ?_))
  refine Calls.spliced_nil ?_
  generalize hfo : PySem.W.kla_obj "<lambda>" (X.env.qual ++ "<lambda>") params body scope (cloFrom X.env.cells scope.names []) ((X.mg "__name__").getD .none) c' ctv = fo
  have kp : ∀ b o, b ≠ PT → s.heap.get? b = some o → (h'.push fo).get? b = some o := fun b o hn e => Heap.get?_push_of_some _ (hx1 b o hn e)
  have sz : s.heap.objs.size ≤ h'.objs.size := Nat.le_trans hge (Nat.le_of_lt hlt)
  have htb' : (h'.push fo).get? PT = some (PySem.W.tabObj (ps ++ #[rawInt lpos.line, rawInt lpos.col, .ref c'])) := Heap.get?_push_of_some _ htb
  -- the state behind the lambda
  have I3 : Inv X pins σ (upd H PT (.tbl (ps ++ #[rawInt lpos.line, rawInt lpos.col, .ref c']))) { s with heap := h'.push fo, toks := tk } := by
    refine I.un ⟨fun b o q n _ _ => kp b o (fun z => by rw [z, hT] at n; cases n) q, fun b o q n _ _ => ⟨o.slots, kp b o (fun z => by rw [z, hT] at n; cases n) q⟩, fun b o q n _ => ?_, fun b o q _ => ?_, fun b xs q => ?_, fun b o u q => ?_, fun b qs q => ?_⟩ fun a o e => ?_
    · rw [upd_ne (fun z => by rw [z, hT] at n; cases n)]; exact n
    · by_cases z : b = PT
      · rw [z]; exact ⟨_, htb'⟩
      · exact ⟨o, kp b o z q⟩
    · rw [upd_ne (fun z => by rw [z, hT] at q; cases q)]; exact q
    · rw [upd_ne (fun z => by rw [z, hT] at q; cases q)]; exact q
    · by_cases z : b = PT
      · rw [z, hT] at q
        cases q
        exact ⟨_, by rw [z, upd_same]⟩
      · exact ⟨#[], by rw [upd_ne z, q]; simp⟩
    · by_cases z : a = PT
      · rw [z, upd_same] at e
        cases e
        rw [z]
        exact htb'
      · rw [upd_ne z] at e
        refine (I.hok a o e).stay (fun b u hb q => kp b u (fun z' => ?_) q) (fun b q => ?_) fun b xs q => ?_
        · rcases hb with hb | hb
          · exact z (hb ▸ z')
          · rw [z', hT] at hb; cases hb
        · rw [upd_ne (fun z' => by rw [z', hT] at q; cases q)]; exact q
        · rw [upd_ne (fun z' => by rw [z', hT] at q; cases q)]; exact q
  generalize hmore : (#[rawInt lpos.line, rawInt lpos.col, .ref c'] : Array Value) = more at I3 htb' 
  refine ⟨I3.kIn, ?_⟩
  generalize hH3 : upd H PT (.tbl (ps ++ more)) = H3 at I3
  have sub : ∀ {b : Addr} {o : Obj}, (h'.push fo).get? b = some o → H3 b = none → b ∉ frs X.stack → (hidT (h'.push fo) (inH (frs X.stack) H3)).get? b = some o := fun e n1 n2 => hidT_get e (inH_of n2 n1)
  have nfr : ∀ b o, X.base.get? b = some o → b ∉ frs X.stack := fun b o e z => by
    have := (I3.stack.mem z).1
    rw [e] at this
    cases this
  have bk : ∀ b o, X.base.get? b = some o → (hidT (h'.push fo) (inH (frs X.stack) H3)).get? b = some o := fun b o e => sub (I3.bk b o e) (I3.bs b o e).2 (nfr b o e)
  have hKb : X.K.In (hidT (h'.push fo) (inH (frs X.stack) H3)) := I.ok.mod.kin.keeps bk
  have hM : Mod X.K X.mg (hidT (h'.push fo) (inH (frs X.stack) H3)) := ⟨hKb, I.ok.mod.glob.keeps bk, let ⟨mb, a, b⟩ := I.ok.mod.blt; ⟨mb, a.keeps bk, b⟩, I.ok.mod.nolimit.keeps bk⟩
  have e0 : Env0 X.prog X.w X.K X.mg (hidT (h'.push fo) (inH (frs X.stack) H3)) X.A X.stack { s with heap := h'.push fo, toks := tk } H3 :=
    ⟨I.ok.frames, hM, fun b o e => ⟨(of_hidT e).1, (inH_none (of_hidT e).2).2⟩, Nat.le_of_eq (hidT_size _ _), funs_base I3.stack fun b hb => ?_, I3.stkFree, I3.hok, I3.bare⟩
  case refine_1 =>
    cases z : (hidT (h'.push fo) (inH (frs X.stack) H3)).get? b with
    | none => rfl
    | some o => exact absurd hb (inH_none (of_hidT z).2).1
  -- new addresses
  have new : ∀ {a : Addr}, s.heap.objs.size ≤ a → H3 a = none ∧ a ∉ frs X.stack := fun {a} ha => by
    refine ⟨?_, fun z => ?_⟩
    · rw [← hH3, upd_ne (fun z => by rw [z] at ha; exact absurd (Heap.lt_size hP) (Nat.not_lt_of_le ha))]
      exact I.hok.fresh ha
    · obtain ⟨_, o, e, _⟩ := I.stack.mem z
      exact absurd (Heap.lt_size e) (Nat.not_lt_of_le ha)
  have nf := new sz
  have fget : (hidT (h'.push fo) (inH (frs X.stack) H3)).get? h'.objs.size = some fo := sub (Heap.get?_push_size _ (by rw [← hfo]; rfl)) nf.1 nf.2
  have cells : ∀ {y : Str} {c1 : Addr}, (cloFrom X.env.cells scope.names []).lookup y = some c1 → X.env.cells.lookup y = some c1 := fun {y c1} e => by
    rcases cloFrom_mem (PySem.mem_of_lookup e) with z | ⟨z1, z2⟩
    · cases z
    · obtain ⟨c2, e2⟩ := hfree _ z1 rfl
      rw [e2] at z2
      rw [e2, z2]; rfl
  have celB : ∀ {y : Str} {c1 : Addr} {v : Option Value}, X.env.cells.lookup y = some c1 → s.heap.IsCell c1 v → (hidT (h'.push fo) (inH (frs X.stack) H3)).IsCell c1 v := fun {y c1 v} e ⟨o, e1, e2⟩ => by
    have nP : c1 ≠ PT := fun z => by
      have := I.freeC y c1 e
      rw [z, hT] at this
      cases this
    refine ⟨o, sub (kp c1 o nP e1) (by rw [← hH3, upd_ne nP]; exact I.freeC y c1 e) fun z => ?_, e2⟩
    rw [hst, frs_cons hfr] at z
    rcases List.mem_cons.mp z with z | z
    · exact I.cne y c1 e z
    · obtain ⟨_, o', e', _⟩ := I.ok.funs.mem z
      exact absurd (Heap.lt_size e') (Nat.not_lt_of_le (I.ok.cab y c1 (hfn y) e))
  have hLam : Lam (hidT (h'.push fo) (inH (frs X.stack) H3)) h'.objs.size (PySem.W.kla_fn "<lambda>" (X.env.qual ++ "<lambda>") params body scope (cloFrom X.env.cells scope.names []) ((X.mg "__name__").getD .none) (.ref c') ctv) (X.env.qual ++ "<lambda>") params body scope (cloFrom X.env.cells scope.names []) (.ref c') M vs := by
    refine ⟨⟨_, _, _, _, _, rfl, by rw [fget, ← hfo]⟩, ?_, fun y z c1 e1 e2 => I.ok.inj y z c1 (cells e1) (cells e2), fun y e => ?_, fun y c1 e => ?_, fun j y v e1 e2 => ?_, by rw [hvl, hlx]⟩
    · obtain ⟨c2, o2, vs2, t2, q1, q2, q3, q4⟩ := hrec
      cases q1
      exact ⟨c', o2, vs2, t2, rfl, sub (Heap.get?_push_of_some _ q2) (new hge).1 (new hge).2, q3, q4⟩
    · obtain ⟨c1, z⟩ := mem_lookup (cloFrom_has (cells := X.env.cells) (acc := []) (PySem.mem_of_lookup e))
      exact ⟨c1, z⟩
    · obtain ⟨v, z⟩ := I.cell y c1 (cells e)
      exact ⟨v, celB (cells e) z⟩
    · obtain ⟨i, i1, i2⟩ := hix j y e1
      have hi := hvs j i v i1 e2
      obtain ⟨m, hn, hl⟩ := I.loc
      have yf := S.free y (List.mem_of_getElem? e1)
      have yc := hcel _ (PySem.mem_of_lookup yf) rfl
      obtain ⟨u, ru, lk⟩ := hl i y v i2 hi (.inr (.inl yc))
      rcases lk with ⟨z, _⟩ | ⟨_, c1, z1, z2⟩
      · have z : X.env.scope.names.lookup y = some .local := z
        rw [yc] at z; cases z
      · obtain ⟨c2, z3⟩ := mem_lookup (cloFrom_has (cells := X.env.cells) (acc := []) (PySem.mem_of_lookup yf))
        have z4 := cells z3
        rw [z1] at z4
        cases z4
        exact ⟨c1, u, z3, celB z1 z2, ru⟩
  have FF := F _ _ _ _ _ vs hKb hM.glob hLam
  have hsp' := hsp h'.objs.size more (I.hok.fresh sz)
  rw [hH3] at hsp'
  have hb' := hb { s with heap := h'.push fo, toks := tk } [.ref h'.objs.size] I3.kIn rfl
  refine wpAny_call (codeAny_mono (FF.run X.A X.stack _ H3 ⟨[.ref h'.objs.size], []⟩ [.ref h'.objs.size] [.ref h'.objs.size] Q E hr e0 hb' (.cons rfl .nil) hsp') fun r s' hq => ?_)
  cases r with
  | error e => exact hx pins σ H3 _ e s' I3 hq
  | ok fl =>
    cases fl with
    | ret u => exact I3.after hq
    | next => exact False.elim hq
    | brk => exact False.elim hq
    | cont => exact False.elim hq
end
end LM
end

section
set_option Elab.async false
set_option linter.all false
set_option maxRecDepth 100000
set_option maxHeartbeats 2000000
namespace LM
open PySem PySem.Spec PyProof.Rows L2 EX
open PySem.W (WData Codec OpenSpec Well WellAll ReadsW ReadsAllW)
/-- a call of a def that makes a function: its code's table at PT grows -/
theorem spec_callT {P : Program} {w : World} {K : PySem.W.Frag} {mg mb : Str → Option Value} {CX : CXT} {k : Nat} {fa c PT : Addr} {fd : FuncData} {ps : List Str} {sp : Sp} {s₁ : Shared} {vals : List Value} {ds : List WData} {R : PySem.W.WRecords} {cl : Str → Option Addr} {d0 : WData}
    (KX : K.In s₁.heap) (nT : PySem.W.noTabs K = true) (hC : PySem.W.CodeHd s₁.heap c PT) (hT : s₁.heap.get? PT = some (PySem.W.tabObj #[]))
    (hBm : ∃ bm ob, mg "__builtins__" = some (.ref bm) ∧ bm ≠ builtinsNs ∧ s₁.heap.get? bm = some ob ∧ ob.cls = .type "module" ∧ ob.dict = some builtinsNs ∧ ob.data = .plain)
    (hns : s₁.heap.Ns mainGlobals mg) (hb : s₁.heap.Ns builtinsNs mb) (hbb : ∀ x : Str, x ≠ "__name__" → mb x = bootBuiltins x) (hlim : s₁.heap.NoLimit) (hg : s₁.gens = #[])
    (hwl : WellAll w.params s₁.heap vals ds) (hpl : plWs ds = true) (hwt : ∀ d ∈ ds, d.weight ≤ 1048576) (hr : Room k callerA)
    (F : ∀ base : Heap, K.In base → base.Ns mainGlobals mg → PySem.W.CodeHd base c PT → base.BuiltinsAt mg PT → FnOk P w K mg base CX k fa fd ps sp) (hbind : ∀ (s : Shared) (us : List Value), us.length = ps.length → BindsTo s fd ⟨us, []⟩ (ps.zip us)) (hlen : ds.length = ps.length)
    (hsp : ∀ (H : Hp) (xs : List V), DwAll K H xs ds → H PT = none → sp xs (upd H PT (.tbl #[])) (fun v H' => Dw K H' v d0) fun _ _ _ => False)
    (hCX : ∀ H e s', CX [] H s₁ (fun _ _ _ => False) e s' → False) :
    codeAny (model P w) callerA (.call (.ref fa) ⟨vals, []⟩) (fun r s' => ∃ u as, r = .ok (.ret u) ∧ ReadsW R cl s'.heap u d0 as ∧ OldK s₁.heap s'.heap ∧ s'.os = s₁.os ∧ AllBare s'.gens) s₁ := by
  obtain ⟨A, ho, ar⟩ := area_all ds vals hwl hpl hwt
  have hO : OnlyF (argH K s₁.heap A) := argH_only ar
  have hok0 : HOk P w (argH K s₁.heap A) s₁.heap := argH_ok ar
  have hS := dw_all KX ar ds vals hwl hpl ho
  have hV := vals_toV ho
  have hK0 : ∀ b u, argH K s₁.heap A b = some u → K.lookup b = none := fun b u q => (argH_is ar q).1
  -- what is tracked is a list or a tuple
  have noA : ∀ {b : Addr} {o : Obj}, s₁.heap.get? b = some o → (∀ vs n, o.data ≠ .seq vs n) → argH K s₁.heap A b = none := fun {b o} e d => by
    cases q : argH K s₁.heap A b with
    | none => rfl
    | some u =>
      obtain ⟨_, vs, _, _, ⟨e2, _⟩ | ⟨e2, _⟩⟩ := argH_is ar q
      · rw [e2] at e
        cases e
        exact absurd rfl (d vs.toArray _)
      · rw [e2] at e
        cases e
        exact absurd rfl (d vs.toArray _)
  have hPT : argH K s₁.heap A PT = none := noA hT (fun vs n z => by cases z)
  generalize argH K s₁.heap A = H0 at hO hok0 hS hK0 noA hPT
  have hok : HOk P w (upd H0 PT (.tbl #[])) s₁.heap := fun a o e => by
    by_cases z : a = PT
    · rw [z, upd_same] at e
      cases e
      rw [z]
      exact hT
    · rw [upd_ne z] at e
      exact (hok0 a o e).stay (fun b u _ q => q) (fun b q => by rw [upd_ne (ne_of_none q hPT)]; exact q) fun b xs q => by rw [upd_ne (ne_of_none q hPT)]; exact q
  have nKT : ∀ b o, K.lookup b = some o → b ≠ PT := fun b o e z => by
    have e2 := KX b o e
    rw [z, hT] at e2
    have h2 := List.all_eq_true.mp nT (b, o) (PySem.W.mem_of_lookupK e)
    cases e2
    exact absurd (show false = true from h2) Bool.false_ne_true
  have base_of : ∀ {b : Addr} {o : Obj}, s₁.heap.get? b = some o → H0 b = none → b ≠ PT → (hidT s₁.heap (upd H0 PT (.tbl #[]))).get? b = some o := fun e n z => hidT_get e (by rw [upd_ne z]; exact n)
  have nsK : ∀ {b : Addr} {m : Str → Option Value}, s₁.heap.Ns b m → (hidT s₁.heap (upd H0 PT (.tbl #[]))).Ns b m := fun {b m} ⟨o, es, ep, e, d, r⟩ =>
    ⟨o, es, ep, base_of e (noA e fun vs n z => by rw [d] at z; cases z) (fun z => by rw [z, hT] at e; cases e; cases d), d, r⟩
  have nK : ∀ b o, K.lookup b = some o → H0 b = none := fun b o e => by
    cases q : H0 b with
    | none => rfl
    | some u =>
      rw [hK0 b u q] at e
      cases e
  have hKb : K.In (hidT s₁.heap (upd H0 PT (.tbl #[]))) := fun b o e => base_of (KX b o e) (nK b o e) (nKT b o e)
  have hM : Mod K mg (hidT s₁.heap (upd H0 PT (.tbl #[]))) := ⟨hKb, nsK hns, ⟨mb, nsK hb, hbb⟩, let ⟨mc, h1, h2⟩ := hlim; ⟨mc, nsK h1, h2⟩⟩
  have e0 : Env0 P w K mg (hidT s₁.heap (upd H0 PT (.tbl #[]))) callerA [] s₁ (upd H0 PT (.tbl #[])) := ⟨rfl, hM, fun b o e => of_hidT e, Nat.le_of_eq (hidT_size _ _), trivial, fun b hb => absurd (show b ∈ ([] : List Addr) from hb) (by simp), hok, .of_eq hg⟩
  have hC' : PySem.W.CodeHd (hidT s₁.heap (upd H0 PT (.tbl #[]))) c PT := by
    obtain ⟨o, vs, file, tf, flags, tg, inF, text, tt, e1, r1, r2, r3, r4, r5, r6, r7, r8, hne⟩ := hC
    exact ⟨o, vs, file, tf, flags, tg, inF, text, tt, base_of e1 (noA e1 fun _ _ z => by rw [r2] at z; cases z) hne, r1, r2, r3, r4, r5, r6, r7, r8, hne⟩
  have hB' : (hidT s₁.heap (upd H0 PT (.tbl #[]))).BuiltinsAt mg PT := by
    obtain ⟨bm, ob, b1, b2, b3, b4, b5, b6⟩ := hBm
    have n1 : bm ≠ PT := fun z => by rw [z, hT] at b3; cases b3; cases b4
    have n2 : bm ≠ mainGlobals := fun z => by
      obtain ⟨o, es, ep, e, d, _⟩ := hns
      rw [z, e] at b3
      cases b3
      rw [d] at b6
      cases b6
    exact ⟨bm, ob, b1, b2, n2, n1, base_of b3 (noA b3 fun _ _ z => by rw [b6] at z; cases z) n1, b4, b5, b6⟩
  have hl : vals.length = ps.length := by rw [wellAll_len hwl]; exact hlen
  refine codeAny_mono ((F _ hKb (nsK hns) hC' hB').run callerA [] s₁ (upd H0 PT (.tbl #[])) ⟨vals, []⟩ vals (vals.map toV) _ _ hr e0 (hbind s₁ vals hl) hV (hsp H0 _ hS hPT)) fun r s' x => ?_
  cases r with
  | error e => exact (hCX _ e s' x).elim
  | ok fl =>
    cases fl with
    | next => exact False.elim x
    | brk => exact False.elim x
    | cont => exact False.elim x
    | ret u =>
      obtain ⟨v, H', os, bare, un, hok', r', q⟩ := x
      have kept : ∀ b o, b ≠ PT → s₁.heap.get? b = some o → s'.heap.get? b = some o := fun b o nb e => by
        cases q2 : H0 b with
        | none => exact un.keep b o e (by rw [upd_ne nb]; exact q2) (by intro z; exact absurd (show b ∈ ([] : List Addr) from z) (by simp)) (by simp)
        | some u2 =>
          rcases hO b with z | ⟨ob, u3, z⟩
          · rw [q2] at z
            cases z
          · have z2 := un.frzs b ob _ (by rw [upd_ne nb]; exact z)
            obtain ⟨e1, _⟩ := hok0 b _ z
            obtain ⟨e2, _⟩ := hok' b _ z2
            rw [e] at e1
            cases e1
            exact e2
      have KX' : K.In s'.heap := fun b o e => kept b o (nKT b o e) (KX b o e)
      obtain ⟨as, hrd⟩ := Dw.reads (R := R) (cl := cl) hok' KX' d0 v u q r'
      obtain ⟨more, hm⟩ := un.tbls PT #[] upd_same
      have hm' : s'.heap.get? PT = some (PySem.W.tabObj (#[] ++ more)) := hok' PT _ hm
      refine ⟨u, as, rfl, hrd, ⟨fun b o e => ?_, fun b o e => ?_⟩, os, bare⟩
      · by_cases z : b = PT
        · subst z
          rw [hT] at e
          cases e
          exact .inr (.inl ⟨(hC.tab hT).isCodeTable, rfl, #[], more, rfl, hm'⟩)
        · exact .inl (kept b o z e)
      · by_cases z : b = PT
        · subst z
          exact ⟨_, hm'⟩
        · exact ⟨o, kept b o z e⟩
/-- the goal that k_headS leaves (case hc), from the promise of a row's def that makes a function -/
theorem walk_specT {r : OpenSpec} {k : Nat} {q : Program} {loose : List Str} {XP : (Str → Option Value) → Heap → Prop} {YP : World → Heap → Prop} {d : DefRec} {K : Params → PySem.W.Frag} {CX : CXT} {ps : List Str} {sp : PySem.W.Frag → Addr → Sp}
    (hwell : r.wellSaid = true) (hdf : d.params.defaults = []) (hlen : r.args.length = ps.length) (hr : Room k callerA) (hfind : (recsOf q).find? (fun e => e.name == d.name) = some d)
    (hY : ∀ (w : World) (h : Heap), YP w h → (K w.params).In h)
    (nT : ∀ w : World, PySem.W.noTabs (K w.params) = true)
    (F : ∀ (w : World) (mg : Str → Option Value) (fa : Addr) (h : Heap), YP w h → (K w.params).In h → h.Ns mainGlobals mg → mg d.name = some (.ref fa) →
      ∃ (fd : FuncData) (c PT : Addr), PySem.W.tabIn (K w.params) d.name = some (c, PT) ∧ (∀ (s : Shared) (us : List Value), us.length = ps.length → BindsTo s fd ⟨us, []⟩ (ps.zip us)) ∧
        ∀ base : Heap, (K w.params).In base → base.Ns mainGlobals mg → PySem.W.CodeHd base c PT → base.BuiltinsAt mg PT → FnOk r.prog w (K w.params) mg base CX k fa fd ps (sp (K w.params) PT))
    (hsp : ∀ (K : PySem.W.Frag) (PT : Addr) (H : Hp) (xs : List V) (a : Codec.denoteAll r.args), H PT = none → Codec.withinAll r.args a = true → Codec.app r.args r.asked a = true → DwAll K H xs (Codec.encAll r.args a) →
      sp K PT xs (upd H PT (.tbl #[])) (fun v H' => Dw K H' v (r.ret.enc (Codec.app r.args r.f a))) fun _ _ _ => False)
    (hCX : ∀ (H : Hp) (s : Shared) (e : Value) (s' : Shared), CX [] H s (fun _ _ _ => False) e s' → False) :
    PySem.W.WalkOS q loose XP YP r d [] (fun f vs => PySem.call f vs) := by
  intro w s_0 s₁ mg mb G Y fa o pm cd doc dV kV ho hd hcd hD hmg hg args vals as hpre hlay hrd hwl hlo
  obtain ⟨a, e1, e2⟩ := PySem.W.os_pre_some hpre
  obtain ⟨e3, hwi⟩ := Codec.encAll_of_decAll r.args args a e1
  subst e3
  have KX := hY w _ Y
  obtain ⟨fd, c, PT, hti, hb, hF⟩ := F w mg fa _ Y KX G.T.g hmg
  obtain ⟨hC, hT⟩ := PySem.W.tab_of G.T KX hfind hti
  refine PySem.W.enter_call (codeAny_mono (spec_callT (R := []) (cl := classAt s_0.heap) (d0 := r.ret.enc (Codec.app r.args r.f a)) KX (nT w) hC hT G.T.bmain G.T.g G.T.b G.T.builtins G.T.nolimit hg hwl (pl_encAll _ _) (layable_weight hlay) hr hF hb (by rw [encAll_len]; exact hlen)
    (fun H xs hS hP => hsp _ PT H xs a hP hwi e2 hS) fun H e s' => hCX H s₁ e s') fun r' s' hq => ?_)
  obtain ⟨u, as', rfl, h1, h2, h3, h4⟩ := hq
  exact ⟨.inl ⟨u, _, as', rfl, fun _ => rfl, h1, (OpenSpec.post_iff hwell hwi _ _).mpr rfl, fun z => Bool.noConfusion (show false = true from z)⟩, h2, h3, h4⟩
end LM
end

section
set_option Elab.async false
set_option linter.all false
set_option maxRecDepth 100000
namespace EX
open PySem PyProof.Rows HT

section
open PySem.SeqAt
open PySem.AutoSeq1 (wpAny_loadPart')
open PySem.MeetsSeq PySem.MeetsSeq2 PySem.MeetsSeq3

end
section
variable {prog : Program} {w : World} {A : Around} {E : Value → Shared → Prop} {s : Shared}
end
open L2
end EX
end

section
set_option Elab.async false
set_option linter.all false
set_option maxRecDepth 100000
/-! ### readers: what is common to all laws -/
namespace RD
open PySem PySem.Spec PyProof.Rows L2 EX

section
variable {X : Cx}
/-- a name of the top that holds a plain value -/
theorem pe_gc {x : Str} {v : V} {pos : Pos} (hg : Gl X x) (h : ∃ u, X.mg x = some u ∧ RelV v u) (hd : (x == ("__debug__" : Str)) = false := by decide) : PE X (.Name x pos) (tC v) := by
  obtain ⟨u, a, b⟩ := h
  exact pe_glob hg a b hd
end
theorem Same.new {a : Addr} {H : Hp} {o : HO} (n : H a = none) : Same H (L2.upd H a o) := fun b o' e => by
  rw [upd_ne (ne_of_none e n)]; exact e
/-! ### the reader's object -/
def xf (rule place which : Int) : List (Str × V) := [("which", .int which), ("place", .int place), ("rule", .int rule)]
theorem xf_which (r p w : Int) : (xf r p w).lookup ("which" : Str) = some (.int w) := by
  unfold xf; rw [List.lookup_cons, show (("which" : Str) == "which") = true by decide]
theorem xf_place (r p w : Int) : (xf r p w).lookup ("place" : Str) = some (.int p) := by
  unfold xf; rw [List.lookup_cons, show (("place" : Str) == "which") = false by decide, List.lookup_cons, show (("place" : Str) == "place") = true by decide]
theorem xf_rule (r p w : Int) : (xf r p w).lookup ("rule" : Str) = some (.int r) := by
  unfold xf; rw [List.lookup_cons, show (("rule" : Str) == "which") = false by decide, List.lookup_cons, show (("rule" : Str) == "place") = false by decide, List.lookup_cons, show (("rule" : Str) == "rule") = true by decide]
/-! ### the mathematics of reading -/
end RD
end

section
set_option Elab.async false
set_option linter.all false
set_option maxRecDepth 100000
namespace RD
open PySem PySem.Spec PyProof.Rows L2 EX
section
variable {X : Cx}
/-! the same rules with the text's fragment named (for a block, for an except suite) -/
theorem ix_tupK (K : PySem.W.Frag) (hK : X.K = K) : IxR X (rIxT K) := by subst hK; exact ix_tup
/-- // by a positive divisor of less than 9000 bits -/
def CDivL (i j : Int) : Prop := 0 < j ∧ j.natAbs.log2 < 9000
theorem op_fdivL : OpR X (binaryOp .FloorDiv) (rI CDivL fun i j => .int (i / j)) := opI fun i j _ _ _ _ _ hc q => by
  have h1 : (0 : Int) < j := hc.1
  exact floordiv_int (by omega) (by rw [Int.fdiv_eq_ediv_of_nonneg i (by omega)]; exact q) (.inl (PyProof.noPylong_of_log2 hc.2))
theorem CDivL.of {i j : Int} {k : Nat} (h0 : 0 < j) (h : j.natAbs < 2 ^ k) (hk : k ≤ 9000) : CDivL i j := by
  refine ⟨h0, Nat.lt_of_lt_of_le ((Nat.log2_lt (by omega)).mpr h) hk⟩
theorem map_int_inj : ∀ {a b : List Int}, a.map V.int = b.map V.int → a = b
  | [], [], _ => rfl
  | [], _ :: _, h => by cases h
  | _ :: _, [], h => by cases h
  | x :: a, y :: b, h => by
    rw [List.map_cons, List.map_cons] at h
    injection h with h1 h2
    rw [V.int.inj h1, map_int_inj h2]
theorem all_range_eq : ∀ (m n : List Int), ((List.range (min m.length n.length)).all (fun j => m.getD j 0 == n.getD j 0) && m.length == n.length) = decide (m = n)
  | [], [] => rfl
  | [], _ :: _ => rfl
  | _ :: _, [] => by simp
  | a :: m, b :: n => by
    have ih := all_range_eq m n
    rw [List.length_cons, List.length_cons, Nat.succ_min_succ, List.range_succ_eq_map, List.all_cons, List.all_map]
    have e1 : ((a :: m).getD 0 0 == (b :: n).getD 0 0) = decide (a = b) := by
      show (a == b) = _
      by_cases h : a = b
      · simp [h]
      · simp [h]
    have e2 : ((fun j => (a :: m).getD j 0 == (b :: n).getD j 0) ∘ Nat.succ) = fun j => m.getD j 0 == n.getD j 0 := by
      funext j; rfl
    have e3 : (m.length + 1 == n.length + 1) = (m.length == n.length) := by
      by_cases h : m.length = n.length
      · simp [h]
      · simp [h]
    rw [e1, e2, e3, Bool.and_assoc, ih]
    by_cases h : a = b
    · subst h; simp
    · simp [h]
theorem eqAt_ints {A : Around} {s : Shared} {t t2 : Addr} {m n : List Int} {its its2 : List Value} (r : Vals (m.map V.int) its) (r2 : Vals (n.map V.int) its2) (h : s.heap.IsTuple t its.toArray) (h2 : s.heap.IsTuple t2 its2.toArray) (hne : t ≠ t2) (hu : A.units < cLine) :
    SeqAt.EqAt A s (.ref t) (.ref t2) (decide (m = n)) := by
  have l1 : its.length = m.length := by have := r.length; rw [List.length_map] at this; exact this.symm
  have l2 : its2.length = n.length := by have := r2.length; rw [List.length_map] at this; exact this.symm
  have key := SeqAt.EqAt.of_refs hne (SeqAt.RcAt.tuples (e := fun j => m.getD j 0 == n.getD j 0) h h2 hu fun j h1 h2 => by
    have a1 : j < m.length := by simpa [l1] using h1
    have a2 : j < n.length := by simpa [l2] using h2
    obtain ⟨u, e1, t', q1⟩ := r.get (i := j) (x := .int m[j]) (by rw [List.getElem?_map, List.getElem?_eq_getElem a1]; rfl)
    obtain ⟨u', e2, t'', q2⟩ := r2.get (i := j) (x := .int n[j]) (by rw [List.getElem?_map, List.getElem?_eq_getElem a2]; rfl)
    have f1 : its.toArray[j] = .int m[j] t' := by
      have : its[j]? = some (its.toArray[j]) := by simp
      rw [this] at e1
      rw [← q1]; exact Option.some.inj e1
    have f2 : its2.toArray[j] = .int n[j] t'' := by
      have : its2[j]? = some (its2.toArray[j]) := by simp
      rw [this] at e2
      rw [← q2]; exact Option.some.inj e2
    have g1 : m.getD j 0 = m[j] := by simp [List.getD, List.getElem?_eq_getElem a1]
    have g2 : n.getD j 0 = n[j] := by simp [List.getD, List.getElem?_eq_getElem a2]
    rw [f1, f2, g1, g2]
    exact SeqAt.EqAt.int_int _ _ _ _)
  rw [List.size_toArray, List.size_toArray, l1, l2, all_range_eq] at key
  exact key
/-- a tuple of ints among a list of such -/
def Tups (H : Hp) (ts : List Addr) (ls : List (List Int)) : Prop := ts.length = ls.length ∧ ∀ (j : Nat) (t : Addr) (m : List Int), ts[j]? = some t → ls[j]? = some m → H t = some (.tup (m.map V.int))
theorem Tups.same {H H' : Hp} {ts : List Addr} {ls : List (List Int)} (h : Tups H ts ls) (k : ∀ b xs, H b = some (.tup xs) → H' b = some (.tup xs)) : Tups H' ts ls := ⟨h.1, fun j t m a b => k _ _ (h.2 j t m a b)⟩
theorem Tups.nil {H : Hp} : Tups H [] [] := ⟨rfl, fun j t m a b => by simp at a⟩
theorem Tups.snoc {H : Hp} {ts : List Addr} {ls : List (List Int)} {t : Addr} {m : List Int} (h : Tups H ts ls) (ht : H t = some (.tup (m.map V.int))) : Tups H (ts ++ [t]) (ls ++ [m]) := by
  refine ⟨by simp [h.1], fun j t' m' a b => ?_⟩
  rw [List.getElem?_append] at a b
  rw [h.1] at a
  split at a
  · rename_i hj
    rw [if_pos hj] at b
    exact h.2 j t' m' a b
  · rename_i hj
    rw [if_neg hj] at b
    cases z : j - ls.length with
    | zero =>
      rw [z] at a b
      cases a; cases b
      exact ht
    | succ n => rw [z] at a; simp at a
def rInT : R2 := fun x y H Q => ∃ l t ts n ls, x = .ref t ∧ y = .ref l ∧ H t = some (.tup (n.map V.int)) ∧ H l = some (.lst (ts.map V.ref)) ∧ Tups H ts ls ∧ Q (.bl (ls.contains n)) H
open Classical in
theorem op_inT (hu : X.A.units + 1 < cLine) : OpR X (compareOp .In) rInT := by
  intro pins s σ H x y v u Q I rx ry h
  obtain ⟨l, t, ts, n, ls, rfl, rfl, ht, hl, hT, q⟩ := h
  cases rx
  cases ry
  obtain ⟨its, r, pl, hz⟩ := I.list (SqL.of hl)
  obtain ⟨it2, r2, p2, hz2⟩ := I.tuple (SqT.of ht)
  have item : ∀ (j : Nat) (w : Value), its[j]? = some w → ∃ t' m, ts[j]? = some t' ∧ ls[j]? = some m ∧ w = .ref t' ∧ H t' = some (.tup (m.map V.int)) := fun j w hw => by
    have lj : j < its.length := (List.getElem?_eq_some_iff.mp hw).1
    have e := r.length
    rw [List.length_map] at e
    have ltj : j < ts.length := by omega
    have llj : j < ls.length := by rw [← hT.1]; exact ltj
    obtain ⟨u, e1, e2⟩ := r.get (i := j) (x := .ref ts[j]) (by rw [List.getElem?_map, List.getElem?_eq_getElem ltj]; rfl)
    rw [hw] at e1
    cases e1
    exact ⟨ts[j], ls[j], List.getElem?_eq_getElem ltj, List.getElem?_eq_getElem llj, e2, hT.2 j _ _ (List.getElem?_eq_getElem ltj) (List.getElem?_eq_getElem llj)⟩
  let e : Value → Bool := fun w => match w with | .ref t' => decide (H t' = some (.tup (n.map V.int))) | _ => false
  have em : ∀ (t' : Addr) (m : List Int), H t' = some (.tup (m.map V.int)) → e (.ref t') = decide (m = n) := fun t' m h1 => by
    show decide (H t' = _) = _
    refine decide_eq_decide.mpr ⟨fun z => ?_, fun z => by rw [← z]; exact h1⟩
    rw [h1] at z
    have z := HO.tup.inj (Option.some.inj z)
    exact map_int_inj z
  refine SeqAt.in_listAt e pl.isList (fun w hw => ?_) ⟨.bl _, H, I, rfl, ?_⟩
  · obtain ⟨j, hj⟩ := List.getElem?_of_mem (show w ∈ its by simpa using hw)
    obtain ⟨t', m, h1, h2, rfl, h3⟩ := item j w hj
    rw [em t' m h3]
    by_cases z : t' = t
    · subst z
      rw [ht] at h3
      have z := HO.tup.inj (Option.some.inj h3)
      have z2 : n = m := map_int_inj z
      rw [decide_eq_true z2.symm]
      exact SeqAt.EqAt.same _
    · obtain ⟨it3, r3, p3, hz3⟩ := I.tuple (SqT.of h3)
      exact eqAt_ints r3 r2 p3 p2 z (by show X.A.units + 1 < cLine; exact hu)
  · have : its.toArray.any e = ls.contains n := by
      rw [show its.toArray.any e = its.any e by simp, Bool.eq_iff_iff, List.any_eq_true, List.contains_iff_mem]
      constructor
      · rintro ⟨w, hw, hz⟩
        obtain ⟨j, hj⟩ := List.getElem?_of_mem hw
        obtain ⟨t', m, h1, h2, rfl, h3⟩ := item j w hj
        rw [em t' m h3] at hz
        rw [← of_decide_eq_true hz]
        exact List.mem_of_getElem? h2
      · intro hm
        obtain ⟨j, hj⟩ := List.getElem?_of_mem hm
        have llj := (List.getElem?_eq_some_iff.mp hj).1
        have e := r.length
        rw [List.length_map, hT.1] at e
        have lij : j < its.length := by omega
        obtain ⟨t', m, h1, h2, h4, h3⟩ := item j its[j] (List.getElem?_eq_getElem lij)
        refine ⟨its[j], List.getElem_mem lij, ?_⟩
        rw [h4, em t' m h3]
        rw [hj] at h2
        exact decide_eq_true (Option.some.inj h2).symm
    rw [this]
    exact q
end
end RD
end

section
set_option Elab.async false
set_option linter.all false
set_option maxRecDepth 100000
namespace BK
open PySem PySem.Spec PyProof.Rows L2 EX RD
def top (i : Nat) : Stmt := PySem.Challenge.pw_wholeamounts_s05_ratio.main.body.getD i (.Pass ⟨0, 0, 0, 0⟩)
abbrev st_Fault_init : Stmt := inClass (top 1) 0
abbrev st_common_divisor : Stmt := top 7
abbrev st_lowest : Stmt := top 8
abbrev st_paired : Stmt := top 9
abbrev st_refuse_above : Stmt := top 10
abbrev st_least_ratio : Stmt := top 11
abbrev st_ratio : Stmt := top 18
abbrev st_tell_ratio : Stmt := top 19
abbrev st_answer : Stmt := top 20
abbrev st_row : Stmt := top 21
end BK
end

section
set_option Elab.async false
set_option linter.all false
set_option maxRecDepth 100000
namespace BK
open PySem PySem.Spec PyProof.Rows L2 EX RD LM
/-- what answer needs of the top -/
structure TA4 (K : PySem.W.Frag) (mg : Str → Option Value) (CF CW CN CT fF : Addr) : Prop where
  xc : XC K CF fF ["rule", "place", "which"]
  xw : XP K CW
  xn : XP K CN
  xt : XP K CT
  mF : mg "Fault" = some (.ref CF)
  mW : mg "WrongNumbers" = some (.ref CW)
  mN : mg "NotThere" = some (.ref CN)
  mT : mg "TooGreat" = some (.ref CT)
  fw : CW ≠ CF
  fn : CN ≠ CF
  ft : CT ≠ CF
  wn : CN ≠ CW
  wt : CT ≠ CW
  nt : CT ≠ CN
  xg : XG K CF
  nr : NoAttr K CF "rule"
  np : NoAttr K CF "place"
  nw : NoAttr K CF "which"
  c0 : ∃ u, mg "ANSWERED" = some u ∧ RelV (.int 0) u
  c1 : ∃ u, mg "WRONG_NUMBERS" = some u ∧ RelV (.int (-1)) u
  c2 : ∃ u, mg "NOT_THERE" = some u ∧ RelV (.int (-2)) u
  c5 : ∃ u, mg "FAULTY_FORM" = some u ∧ RelV (.int (-5)) u
  c6 : ∃ u, mg "TOO_GREAT" = some u ∧ RelV (.int (-6)) u
/-- a refusal: the answer that it becomes -/
def Refuse (CF CW CN CT : Addr) (ans : List Int) : XK := fun cls d H =>
  (cls = .ref CF ∧ ∃ dx r p w, d = some dx ∧ H dx = some (.xd (xf r p w)) ∧ ans = [-5, w, r, p]) ∨ (cls = .ref CW ∧ ans = [-1]) ∨ (cls = .ref CN ∧ ans = [-2]) ∨ (cls = .ref CT ∧ ans = [-6])
theorem pe_xfs {X : Cx} {f : Str} {e : Expr} {pos : Pos} {ta : TE} (K : PySem.W.Frag) (hK : X.K = K) (he : PE X e ta) (hb : attributeBase e f X.env (eval e X.env) = eval e X.env) : PE X (.Attribute e f pos) (tXf K ta f) := by
  subst hK
  exact pe_xf he hb
section
variable {P : Program} {w : World} {K : PySem.W.Frag} {mg : Str → Option Value} {base : Heap} {CF CW CN CT fF : Addr} {ι : Type} {pre : ι → List V → Hp → Prop} {ans : ι → List Int}
/-- a lambda that tells, or refuses -/
def spL (CF CW CN CT : Addr) (pre : ι → List V → Hp → Prop) (ans : ι → List Int) (vs : List V) : Sp := fun us H Q E => us = [] ∧ ∃ x, pre x vs H ∧
  (∀ H' t xs, L2.Same H H' → H t = none → H' t = some (.lst (xs.map V.int)) → ans x = 0 :: xs → Q (.ref t) H') ∧ ∀ cls d H', Refuse CF CW CN CT (ans x) cls d H' → E cls d H'
def spA (pre : ι → List V → Hp → Prop) (ans : ι → List Int) (f : Addr) (vs : List V) : Sp := fun us H Q _ => us = [.ref f] ∧ ∃ x, pre x vs H ∧ (ans x).length ≤ sizeLine ∧ ∀ H' u, H' u = some (.lst ((ans x).map V.int)) → Q (.ref u) H'
theorem scAns : FnScope ["tell", "fault"] ["tell"] (defScope st_answer) := ⟨rfl, rfl, rfl, by decide +kernel, rfl, by decide +kernel, by decide +kernel⟩
theorem okAns {fA f : Addr} {fdA fd : FuncData} {k : Nat} {vs : List V} (F : Fun K "answer" "answer" st_answer fA fdA) (T : TA4 K mg CF CW CN CT fF) (GL : FnOk P w K mg base (CXF P w) k f fd [] (spL CF CW CN CT pre ans vs)) (hf : PySem.W.FnAt f base)
    (bL : Binds K fd [] []) (hpre : ∀ x H H', L2.Same H H' → pre x vs H → pre x vs H') : FnOk P w K mg base CX0 (k + 1) fA fdA ["tell"] (spA pre ans f vs) := by
  refine F.ok scAns (fun vs H Q E h => ?_) (fun cdv A outer s H vs' Q E hr h => ?_)
  · rw [h.1]; rfl
  · obtain ⟨rfl, x, hp, hln, h⟩ := h
    refine ⟨_, pss_one (ps_try (W := fun D cls d H' => Refuse CF CW CN CT (ans x) cls d H' ∧ ∀ H2 u, H2 u = some (.lst ((ans x).map V.int)) → D.rt (.ref u) H2) rfl rfl rfl
      (fun pins E1 Ew hp => pss_one (ps_ret (pe_op op_cat (pe_lst (pa_cons (pe_gc rfl T.c0) pa_nil)) (pe_tell (i := 0) GL hr hf bL hp))))
      (fun pins D H s ea T1 C d a hW => ?_)), ?_⟩
    · obtain ⟨hW, hQ⟩ := hW
      rcases hW with ⟨e, dx, r, p, w, rfl, hd, hq⟩ | ⟨e, hq⟩ | ⟨e, hq⟩ | ⟨e, hq⟩
      · cases e
        rw [hq] at hQ
        refine' hb_as (i := 1) a T.xc.k1 rfl rfl rfl rfl T.mF scAns.nd rfl rfl ?hs0 ?hE0
        case hs0 => exact fun ea => pss_one (ps_ret (pe_lst (pa_cons (pe_gc rfl T.c5) (pa_cons (pe_xfs K rfl (pv 1) rfl) (pa_cons (pe_xfs K rfl (pv 1) rfl) (pa_cons (pe_xfs K rfl (pv 1) rfl) pa_nil))))))
        intro ea nea ned
        have h1 : upd H ea (XE ea CF dx) dx = some (.xd (xf r p w)) := by rw [upd_ne ned.symm]; exact hd
        exact ⟨_, rfl, ea, CF, dx, _, _, rfl, upd_same, h1, T.xg, T.nw, xf_which _ _ _, _, rfl, ea, CF, dx, _, _, rfl, upd_same, h1, T.xg, T.nr, xf_rule _ _ _, _, rfl, ea, CF, dx, _, _, rfl, upd_same, h1, T.xg, T.np, xf_place _ _ _,
          (by show 4 ≤ sizeLine; decide), fun u hu => hQ _ u upd_same⟩
      · cases e
        rw [hq] at hQ
        refine hb_skip a rfl T.mF T.xw.k1 T.xc.k1 T.fw ?_
        refine' hb_one a T.xw.k1 rfl rfl rfl rfl T.mW ?hs1 ?hE1
        case hs1 => exact fun ea => pss_one (ps_ret (pe_lst (pa_cons (pe_gc rfl T.c1) pa_nil)))
        exact ⟨(by show 1 ≤ sizeLine; decide), fun u hu => hQ _ u upd_same⟩
      · cases e
        rw [hq] at hQ
        refine hb_skip a rfl T.mF T.xn.k1 T.xc.k1 T.fn (hb_skip a rfl T.mW T.xn.k1 T.xw.k1 T.wn ?_)
        refine' hb_one a T.xn.k1 rfl rfl rfl rfl T.mN ?hs2 ?hE2
        case hs2 => exact fun ea => pss_one (ps_ret (pe_lst (pa_cons (pe_gc rfl T.c2) pa_nil)))
        exact ⟨(by show 1 ≤ sizeLine; decide), fun u hu => hQ _ u upd_same⟩
      · cases e
        rw [hq] at hQ
        refine hb_skip a rfl T.mF T.xt.k1 T.xc.k1 T.ft (hb_skip a rfl T.mW T.xt.k1 T.xw.k1 T.wt (hb_skip a rfl T.mN T.xt.k1 T.xn.k1 T.nt ?_))
        refine' hb_one a T.xt.k1 rfl rfl rfl rfl T.mT ?hs3 ?hE3
        case hs3 => exact fun ea => pss_one (ps_ret (pe_lst (pa_cons (pe_gc rfl T.c6) pa_nil)))
        exact ⟨(by show 1 ≤ sizeLine; decide), fun u hu => hQ _ u upd_same⟩
    · refine ⟨(by show 1 ≤ sizeLine; decide), fun l hl => ⟨rfl, rfl, x, hpre x _ _ (RD.Same.new hl) hp, fun H' t xs s1 nt ht e => ?_, fun cls d H' r => ⟨r, h⟩⟩⟩
      rw [e] at h hln
      refine ⟨l, t, _, _, rfl, rfl, s1 _ _ upd_same, ht, ?_, fun p hp => h _ p upd_same⟩
      rw [List.length_cons] at hln
      simp only [List.length_cons, List.length_nil, List.length_map]
      omega
end
/-- the def that is called: return answer(lambda: ..) -/
def spD {ι : Type} (PT : Addr) (ix : List Nat) (pre : ι → List V → Hp → Prop) (ans : ι → List Int) : Sp := fun us H Q _ => us.length = ix.length ∧ H PT = some (.tbl #[]) ∧ ∃ x vs, vs.length = ix.length ∧ (∀ (j i : Nat) (v : V), ix[j]? = some i → vs[j]? = some v → us[i]? = some v) ∧
  (∀ more, pre x vs (upd H PT (.tbl more))) ∧ (ans x).length ≤ sizeLine ∧ ∀ H' p, H' p = some (.lst ((ans x).map V.int)) → Q (.ref p) H'
end BK
end

section
set_option Elab.async false
set_option linter.all false
set_option maxRecDepth 100000
namespace BK
open PySem PySem.Spec PyProof.Rows L2 EX RD LM
theorem code_tab {K : PySem.W.Frag} {x : Str} {c PT f : Addr} {oc : Value} {od : Option Addr} {fd : FuncData} {osl : Array (Option Value)} (h : PySem.W.tabIn K x = some (c, PT)) (hn : PySem.W.nsIn K mainGlobals x = some (some (.ref f)))
    (lk : K.lookup f = some ⟨oc, od, .func fd, osl⟩) : fd.code = .ref c := by
  unfold PySem.W.tabIn at h
  rw [hn] at h
  dsimp only at h
  rw [lk] at h
  dsimp only at h
  split at h
  · rename_i c2 hc
    split at h
    · split at h
      · cases h; exact hc
      · cases h
    · cases h
  · cases h
/-- the pieces of «return answer(lambda: ..)» -/
def lamOf (st : Stmt) : Arguments × Expr × Scope × Pos := match defBody st with
  | [.Return (some (.Call _ [.Lambda a b s p] _ _)) _] => (a, b, s, p)
  | _ => (defArgs st, .Name "" ⟨0, 0, 0, 0⟩, defScope st, ⟨0, 0, 0, 0⟩)
abbrev lamArgs (st : Stmt) : Arguments := (lamOf st).1
abbrev lamBody (st : Stmt) : Expr := (lamOf st).2.1
abbrev lamScope (st : Stmt) : Scope := (lamOf st).2.2.1
abbrev lamPos (st : Stmt) : Pos := (lamOf st).2.2.2
/-- what is asked of the text of a def that returns answer(lambda: ..); M: the captured names, at ix among the parameters ps -/
structure DScope (st : Stmt) (ps M : List Str) (ix : List Nat) : Prop where
  fs : FnScope ps ps (defScope st)
  ls : LScope M (lamScope st)
  body : ∃ p1 p2 p3, defBody st = [.Return (some (.Call (.Name "answer" p1) [.Lambda (lamArgs st) (lamBody st) (lamScope st) (lamPos st)] [] p2)) p3]
  dft : ∀ env, defaultsOf (lamArgs st) env = ([], [])
  cel : ∀ y ∈ (lamScope st).names, y.2 = .free → (defScope st).names.lookup y.1 = some .cell
  at_ : ∀ (j : Nat) (y : Str), M[j]? = some y → ∃ i, ix[j]? = some i ∧ ps[i]? = some y
  len : ix.length = M.length
  uq : ∀ y ∈ (lamScope st).names, (lamScope st).names.lookup y.1 = some y.2
  gl : (defScope st).names.lookup ("answer" : Str) = some .globalImplicit
  cb : ∀ (qual : Str) (cl : List (Str × Addr)) (pm cd ctv : Value), bindArgs (PySem.W.kla_fn "<lambda>" qual (lamArgs st) (lamBody st) (lamScope st) cl pm cd ctv) ⟨[], []⟩ = pure []
section
variable {P : Program} {w : World} {K : PySem.W.Frag} {mg : Str → Option Value} {base : Heap} {CF CW CN CT fF : Addr} {ι : Type} {pre : ι → List V → Hp → Prop} {ans : ι → List Int} {k : Nat} {nm : Str} {st : Stmt} {f fA c PT : Addr} {fd fdA : FuncData} {ps M : List Str} {ix : List Nat}
theorem okD (F : Fun K nm nm st f fd) (hcd : fd.code = .ref c) (S : DScope st ps M ix) (hC : PySem.W.CodeHd base c PT) (hB : base.BuiltinsAt mg PT)
    (hm : mg "answer" = some (.ref fA)) (hk : PySem.W.keepIn K (.ref fA) = true) (hb : Binds K fdA ["tell"] [])
    (GA : ∀ (base : Heap) (f : Addr) (fd : FuncData) (cl : List (Str × Addr)) (cd : Value) (vs : List V), K.In base → base.Ns mainGlobals mg → Lam base f fd (nm ++ ".<locals>." ++ "<lambda>") (lamArgs st) (lamBody st) (lamScope st) cl cd M vs →
      FnOk P w K mg base CX0 k fA fdA ["tell"] (spA pre ans f vs)) (hix : ix.length = ps.length) :
    FnOk P w K mg base CX0 (k + 1) f fd ps (spD PT ix pre ans) := by
  obtain ⟨oc, od, kV, doc, pm, an, cdv, ct, osl, rfl, lk, hc⟩ := F.ex
  obtain rfl : cdv = .ref c := hcd
  refine fn_of lk hc S.fs (fun vs H Q E h => by rw [h.1, hix]) fun A outer s H us Q E hr h => ?_
  obtain ⟨hl, hT, x, vs, hvl, hvs, hp, hln, hq⟩ := h
  obtain ⟨p1, p2, p3, hbd⟩ := S.body
  rw [hbd]
  refine ⟨_, pss_one (ps_ret (pe_ans (ix := ix) (spA := spA pre ans) (CX := CX0) (E := E0) hC hB rfl rfl rfl rfl (fun _ => rfl) (S.dft _) S.ls S.cel S.at_ S.len S.uq S.gl hm hk hb hr (fun _ _ _ _ _ _ _ z => z.elim) GA (by decide) rfl)), ?_⟩
  refine ⟨#[], vs, hT, rfl, by first | trivial | exact .nil | simp [TriplesOk] | decide, hvl, fun j i v e1 e2 => ?_, fun f' more hf' => ⟨rfl, x, hp _, hln, hq⟩⟩
  have z := hvs j i v e1 e2
  have hi : i < us.length := (List.getElem?_eq_some_iff.mp z).1
  unfold L2.start
  rw [List.getElem?_append_left (by simpa using hi), List.getElem?_map, z]
  rfl
theorem bind_lam {qual : Str} {cl : List (Str × Addr)} {cd : Value} {vs : List V} (S : DScope st ps M ix) (L : Lam base f fd qual (lamArgs st) (lamBody st) (lamScope st) cl cd M vs) : Binds K fd [] [] := by
  obtain ⟨oc, od, sl, pm, ctv, rfl, _⟩ := L.ex
  exact .all fun us hl => by
    obtain rfl : us = [] := List.eq_nil_of_length_eq_zero hl
    exact S.cb ..
theorem fnAt_lam {qual : Str} {cl : List (Str × Addr)} {cd : Value} {vs : List V} {a : Arguments} {b : Expr} {sc : Scope} (L : Lam base f fd qual a b sc cl cd M vs) : PySem.W.FnAt f base := by
  obtain ⟨oc, od, sl, pm, ctv, _, e⟩ := L.ex
  exact ⟨oc, od, _, sl, e⟩
end
end BK
end

section
set_option linter.all false
namespace RT
open Fk
abbrev Fr2 := Nat × Nat
def gcds (l : List Nat) : Nat := l.foldl Nat.gcd 0
def lcmS (d y : Nat) : Nat := d * (y / Nat.gcd d y)
def lcms (l : List Nat) : Nat := l.foldl lcmS 1
def leastM (am : List Fr2) : List Nat := am.map fun x => x.1 / gcds (am.map (·.1)) * (lcms (am.map (·.2)) / x.2)
def ratioM (ns : List Nat) : List Int := match FkS.fracsOf ns with
  | none => [-1]
  | some l => if l.any (fun x => x.2 == 0) = true then [-1] else
    if (l.map low).contains (0, 1) = true then [-1] else
    if (leastM (l.map low)).any (fun n => decide (18446744073709551615 < n)) = true then [-6] else 0 :: ((leastM (l.map low)).length : Int) :: (leastM (l.map low)).map Int.ofNat
theorem lcmS_eq (d y : Nat) : lcmS d y = Nat.lcm d y := by
  unfold lcmS Nat.lcm
  exact (Nat.mul_div_assoc d (Nat.gcd_dvd_right d y)).symm
theorem lcms_eq (l : List Nat) : lcms l = lcmAll l := by
  unfold lcms lcmAll
  have : lcmS = Nat.lcm := by funext d y; exact lcmS_eq d y
  rw [this]
theorem gfold_dvd : ∀ (l : List Nat) (a : Nat), l.foldl Nat.gcd a ∣ a ∧ ∀ x ∈ l, l.foldl Nat.gcd a ∣ x
  | [], a => ⟨Nat.dvd_refl _, fun x hx => by simp at hx⟩
  | y :: l, a => by
    obtain ⟨h1, h2⟩ := gfold_dvd l (Nat.gcd a y)
    refine ⟨Nat.dvd_trans h1 (Nat.gcd_dvd_left a y), fun x hx => ?_⟩
    rcases List.mem_cons.mp hx with rfl | hx
    · exact Nat.dvd_trans h1 (Nat.gcd_dvd_right a _)
    · exact h2 x hx
theorem dvd_gfold : ∀ (l : List Nat) (a d : Nat), d ∣ a → (∀ x ∈ l, d ∣ x) → d ∣ l.foldl Nat.gcd a
  | [], a, d, h, _ => h
  | y :: l, a, d, h, hl => dvd_gfold l _ d (Nat.dvd_gcd h (hl y (List.mem_cons_self ..))) fun x hx => hl x (List.mem_cons_of_mem _ hx)
theorem dvd_lfold : ∀ (l : List Nat) (a : Nat), a ∣ l.foldl Nat.lcm a ∧ ∀ x ∈ l, x ∣ l.foldl Nat.lcm a
  | [], a => ⟨Nat.dvd_refl _, fun x hx => by simp at hx⟩
  | y :: l, a => by
    obtain ⟨h1, h2⟩ := dvd_lfold l (Nat.lcm a y)
    refine ⟨Nat.dvd_trans (Nat.dvd_lcm_left a y) h1, fun x hx => ?_⟩
    rcases List.mem_cons.mp hx with rfl | hx
    · exact Nat.dvd_trans (Nat.dvd_lcm_right a _) h1
    · exact h2 x hx
theorem lfold_dvd : ∀ (l : List Nat) (a m : Nat), a ∣ m → (∀ x ∈ l, x ∣ m) → l.foldl Nat.lcm a ∣ m
  | [], a, m, h, _ => h
  | y :: l, a, m, h, hl => lfold_dvd l _ m (Nat.lcm_dvd h (hl y (List.mem_cons_self ..))) fun x hx => hl x (List.mem_cons_of_mem _ hx)
theorem lfold_pos : ∀ (l : List Nat) (a : Nat), 0 < a → (∀ x ∈ l, 0 < x) → 0 < l.foldl Nat.lcm a
  | [], a, h, _ => h
  | y :: l, a, h, hl => lfold_pos l _ (Nat.lcm_pos h (hl y (List.mem_cons_self ..))) fun x hx => hl x (List.mem_cons_of_mem _ hx)
/-- of fractions in lowest terms: the numerators' divisor is that of the whole numbers -/
theorem gcd_all {am : List Fr2} (h : ∀ x ∈ am, 0 < x.2 ∧ Nat.gcd x.1 x.2 = 1) : gcdAll (am.map fun x => x.1 * (lcmAll (am.map (·.2)) / x.2)) = gcds (am.map (·.1)) := by
  generalize hL : lcmAll (am.map (·.2)) = L
  generalize hG : gcds (am.map (·.1)) = G
  generalize hg : gcdAll (am.map fun x => x.1 * (L / x.2)) = g
  have Lpos : 0 < L := by
    rw [← hL]
    exact lfold_pos _ 1 (by decide) fun y hy => by
      obtain ⟨x, hx, rfl⟩ := List.mem_map.mp hy
      exact (h x hx).1
  have yL : ∀ x ∈ am, x.2 ∣ L := fun x hx => by
    rw [← hL]
    exact (dvd_lfold _ 1).2 _ (List.mem_map_of_mem hx)
  have Gx : ∀ x ∈ am, G ∣ x.1 := fun x hx => by
    rw [← hG]
    exact (gfold_dvd _ 0).2 _ (List.mem_map_of_mem hx)
  have gx : ∀ x ∈ am, g ∣ x.1 * (L / x.2) := fun x hx => by
    rw [← hg]
    exact (gfold_dvd _ 0).2 _ (List.mem_map.mpr ⟨x, hx, rfl⟩)
  apply Nat.dvd_antisymm
  · -- g divides G * L
    have gGL : g ∣ G * L := by
      have e : ∀ (l : List Nat) (a : Nat), l.foldl Nat.gcd a * L = (l.map (· * L)).foldl Nat.gcd (a * L) := by
        intro l
        induction l with
        | nil => intro a; rfl
        | cons y l ih =>
          intro a
          rw [List.foldl_cons, ih, List.map_cons, List.foldl_cons, Nat.gcd_mul_right]
      rw [← hG]
      unfold gcds
      rw [e]
      refine dvd_gfold _ _ _ (by simp) fun z hz => ?_
      rw [List.map_map] at hz
      obtain ⟨x, hx, rfl⟩ := List.mem_map.mp hz
      have e2 : x.1 * L = x.1 * (L / x.2) * x.2 := by rw [Nat.mul_assoc, Nat.div_mul_cancel (yL x hx)]
      show g ∣ x.1 * L
      rw [e2]
      exact Nat.dvd_trans (gx x hx) (Nat.dvd_mul_right _ _)
    have gGm : ∀ x ∈ am, g ∣ G * (L / x.2) := fun x hx => by
      obtain ⟨a, ha⟩ := Gx x hx
      have h1 : g ∣ G * (L / x.2) * a := by
        have := gx x hx
        rw [ha] at this
        rwa [Nat.mul_right_comm] at this
      have h2 : g ∣ G * (L / x.2) * x.2 := by
        rw [Nat.mul_assoc, Nat.div_mul_cancel (yL x hx)]
        exact gGL
      have h3 := Nat.dvd_gcd h1 h2
      rw [Nat.gcd_mul_left] at h3
      have h4 : Nat.gcd a x.2 = 1 := by
        have hh := (h x hx).2
        have : Nat.gcd a x.2 ∣ 1 := by
          rw [← hh]
          exact Nat.dvd_gcd (Nat.dvd_trans (Nat.gcd_dvd_left a x.2) ⟨G, by rw [ha, Nat.mul_comm]⟩) (Nat.gcd_dvd_right a x.2)
        exact Nat.dvd_one.mp this
      rwa [h4, Nat.mul_one] at h3
    -- g = G * d', d' | all L / y
    have key : gcds (am.map fun x => L / x.2) ∣ 1 ∨ am = [] := by
      by_cases hne : am = []
      · exact .inr hne
      · refine .inl ?_
        generalize hd : gcds (am.map fun x => L / x.2) = d
        have dm : ∀ x ∈ am, d ∣ L / x.2 := fun x hx => by
          rw [← hd]
          exact (gfold_dvd _ 0).2 _ (List.mem_map.mpr ⟨x, hx, rfl⟩)
        obtain ⟨x0, r, rfl⟩ := List.exists_cons_of_ne_nil hne
        have dL : d ∣ L := Nat.dvd_trans (dm x0 (List.mem_cons_self ..)) ⟨x0.2, (Nat.div_mul_cancel (yL x0 (List.mem_cons_self ..))).symm⟩
        have dpos : 0 < d := Nat.pos_of_dvd_of_pos dL Lpos
        have : L ∣ L / d := by
          conv => lhs; rw [← hL]
          refine lfold_dvd _ 1 _ (Nat.one_dvd _) fun y hy => ?_
          obtain ⟨x, hx, rfl⟩ := List.mem_map.mp hy
          obtain ⟨q, hq⟩ := dm x hx
          refine ⟨q, ?_⟩
          have e : L = x.2 * q * d := by
            have := Nat.div_mul_cancel (yL x hx)
            rw [hq] at this
            rw [← this, Nat.mul_comm d q, Nat.mul_comm (q * d) x.2, Nat.mul_assoc]
          rw [e, Nat.mul_div_cancel _ dpos]
        have h1 : L ≤ L / d := Nat.le_of_dvd (Nat.div_pos (Nat.le_of_dvd Lpos dL) dpos) this
        have : d = 1 := by
          rcases Nat.lt_or_ge 1 d with h2 | h2
          · exact absurd h1 (Nat.not_le_of_lt (Nat.div_lt_self Lpos h2))
          · omega
        rw [this]
        exact Nat.dvd_refl 1
    rcases key with key | rfl
    · have e : ∀ (l : List Nat) (a : Nat), G * l.foldl Nat.gcd a = (l.map (G * ·)).foldl Nat.gcd (G * a) := by
        intro l
        induction l with
        | nil => intro a; rfl
        | cons y l ih =>
          intro a
          rw [List.foldl_cons, ih, List.map_cons, List.foldl_cons, Nat.gcd_mul_left]
      have h1 : g ∣ G * gcds (am.map fun x => L / x.2) := by
        unfold gcds
        rw [e]
        refine dvd_gfold _ _ _ (by simp) fun z hz => ?_
        rw [List.map_map] at hz
        obtain ⟨x, hx, rfl⟩ := List.mem_map.mp hz
        exact gGm x hx
      rwa [Nat.dvd_one.mp key, Nat.mul_one] at h1
    · rw [← hG, ← hg]; exact Nat.dvd_refl _
  · rw [← hg]
    refine dvd_gfold _ _ _ (by simp) fun z hz => ?_
    obtain ⟨x, hx, rfl⟩ := List.mem_map.mp hz
    exact Nat.dvd_trans (Gx x hx) (Nat.dvd_mul_right _ _)
theorem low_ok {x : Fr2} (h : 0 < x.2) : 0 < (low x).2 ∧ Nat.gcd (low x).1 (low x).2 = 1 := by
  have g : 0 < Nat.gcd x.1 x.2 := Nat.gcd_pos_of_pos_right _ h
  refine ⟨Nat.div_pos (Nat.le_of_dvd h (Nat.gcd_dvd_right _ _)) g, ?_⟩
  show Nat.gcd (x.1 / _) (x.2 / _) = 1
  rw [Nat.gcd_div (Nat.gcd_dvd_left _ _) (Nat.gcd_dvd_right _ _)]
  exact Nat.div_self g
theorem low_zero {x : Fr2} (h : 0 < x.2) : low x = (0, 1) ↔ x.1 = 0 := by
  have g : 0 < Nat.gcd x.1 x.2 := Nat.gcd_pos_of_pos_right _ h
  constructor
  · intro e
    have e1 : x.1 / Nat.gcd x.1 x.2 = 0 := congrArg Prod.fst e
    have := Nat.div_mul_cancel (Nat.gcd_dvd_left x.1 x.2)
    rw [e1] at this
    omega
  · intro e
    show (x.1 / Nat.gcd x.1 x.2, x.2 / Nat.gcd x.1 x.2) = (0, 1)
    rw [e, Nat.gcd_zero_left, Nat.zero_div, Nat.div_self h]
theorem ratio_least {l : List Fr2} (h : ∀ x ∈ l, 0 < x.2) : Fk.ratio l = leastM (l.map low) := by
  have hh : ∀ x ∈ l.map low, 0 < x.2 ∧ Nat.gcd x.1 x.2 = 1 := fun x hx => by
    obtain ⟨y, hy, rfl⟩ := List.mem_map.mp hx
    exact low_ok (h y hy)
  unfold Fk.ratio leastM
  rw [lcms_eq]
  show ((l.map low).map fun x => x.1 * (lcmAll ((l.map low).map fun y => y.2) / x.2)).map (fun x => x / gcdAll ((l.map low).map fun x => x.1 * (lcmAll ((l.map low).map fun y => y.2) / x.2))) = _
  rw [show (gcdAll ((l.map low).map fun x => x.1 * (lcmAll ((l.map low).map fun y => y.2) / x.2))) = gcds ((l.map low).map (·.1)) from gcd_all hh, List.map_map]
  refine List.map_congr_left fun x hx => ?_
  show x.1 * _ / _ = _
  have : gcds ((l.map low).map (·.1)) ∣ x.1 := (gfold_dvd _ 0).2 _ (List.mem_map_of_mem hx)
  rw [Nat.mul_comm, Nat.mul_div_assoc _ this, Nat.mul_comm]
theorem mapM_nat : ∀ (f : List Int), (∀ x ∈ f, 0 ≤ x) → f.mapM (m := Option) SumNeutral.nat = some (f.map Int.toNat)
  | [], _ => rfl
  | a :: f, h => by
    have ha := h a (List.mem_cons_self ..)
    rw [List.mapM_cons, mapM_nat f fun x hx => h x (List.mem_cons_of_mem _ hx)]
    have : SumNeutral.nat a = some a.toNat := by
      unfold SumNeutral.nat
      first | rw [if_pos ha] | rw [if_neg (by omega)] | simp [ha]
    rw [this]
    rfl
theorem ratio_eq {f : List Int} (h : ∀ x ∈ f, 0 ≤ x) : PyYqfkea.ratio f = ratioM (f.map Int.toNat) := by
  unfold PyYqfkea.ratio SumNeutral.f
  have e : SumNeutral.callOf [[5], f] = some (.ratio (f.map Int.toNat)) := by
    show (do some (FkS.Call.ratio (← f.mapM SumNeutral.nat)) : Option FkS.Call) = _
    rw [mapM_nat f h]
    rfl
  rw [e]
  show SumNeutral.told (FkS.answer (.ratio (f.map Int.toNat))) = _
  have e2 : FkS.answer (.ratio (f.map Int.toNat)) = match FkS.fracsOf (f.map Int.toNat) with
    | some l => if (l.all fun (x : Frac) => decide (1 ≤ x.1) && decide (1 ≤ x.2)) = true then FkS.fit 64 (Fk.ratio l) else FkS.no (-1)
    | none => FkS.no (-1) := rfl
  rw [e2]
  unfold ratioM
  cases FkS.fracsOf (f.map Int.toNat) with
  | none => rfl
  | some l =>
    show SumNeutral.told (if (l.all fun (x : Frac) => decide (1 ≤ x.1) && decide (1 ≤ x.2)) = true then FkS.fit 64 (Fk.ratio l) else FkS.no (-1)) = _
    dsimp only
    by_cases h0 : l.any (fun x => x.2 == 0) = true
    · rw [if_pos h0, if_neg (c := (l.all fun (x : Frac) => decide (1 ≤ x.1) && decide (1 ≤ x.2)) = true)]
      · rfl
      · intro hall
        obtain ⟨x, hx, hz⟩ := List.any_eq_true.mp h0
        have := List.all_eq_true.mp hall x hx
        simp at this hz
        omega
    · rw [if_neg h0]
      have hpos : ∀ x ∈ l, 0 < x.2 := fun x hx => by
        rcases Nat.eq_zero_or_pos x.2 with z | z
        · exact absurd (List.any_eq_true.mpr ⟨x, hx, by simp [z]⟩) h0
        · exact z
      by_cases h1 : (l.map low).contains (0, 1) = true
      · rw [if_pos h1, if_neg (c := (l.all fun (x : Frac) => decide (1 ≤ x.1) && decide (1 ≤ x.2)) = true)]
        · rfl
        · intro hall
          rw [List.contains_iff_mem] at h1
          obtain ⟨x, hx, hz⟩ := List.mem_map.mp h1
          have := List.all_eq_true.mp hall x hx
          have z := (low_zero (hpos x hx)).mp hz
          simp at this
          omega
      · rw [if_neg h1, if_pos (c := (l.all fun (x : Frac) => decide (1 ≤ x.1) && decide (1 ≤ x.2)) = true)]
        · unfold FkS.fit
          rw [ratio_least hpos]
          have e3 : (fun (x : Nat) => decide (2 ^ 64 ≤ x)) = fun n => decide (18446744073709551615 < n) := by
            funext n
            exact decide_eq_decide.mpr (by omega)
          rw [e3]
          split
          · rfl
          · show (0 : Int) :: SumNeutral.rowN (SumNeutral.ints _) = _
            simp [SumNeutral.rowN, SumNeutral.ints]
        · rw [List.all_eq_true]
          intro x hx
          have hp := hpos x hx
          have : x.1 ≠ 0 := fun z => h1 (by rw [List.contains_iff_mem]; exact List.mem_map.mpr ⟨x, hx, (low_zero hp).mpr z⟩)
          simp
          omega
end RT
end

section
set_option Elab.async false
set_option linter.all false
set_option maxRecDepth 100000
namespace BK
open PySem PySem.Spec PyProof.Rows L2 EX RD LM
section
variable {X : Cx}
def rMulI : V → V → Hp → VK → Prop := fun x y H Q => ∃ i j, x = .int i ∧ y = .int j ∧ CMul i j ∧ Q (.int (i * j)) H
theorem in_mul : PIp X .Mult rMulI := by
  rintro pins s σ H x y u v Q I rx ry ⟨i, j, rfl, rfl, hc, q⟩
  obtain ⟨t, rfl⟩ := (show ∃ t, u = Value.int i t from rx)
  obtain ⟨t', rfl⟩ := (show ∃ t', v = Value.int j t' from ry)
  exact PyProof.Rows.imul_int ⟨.int (i * j), H, I.tok _, ⟨_, rfl⟩, q⟩ hc.ok
end
section
variable {P : Program} {w : World} {K : PySem.W.Frag} {mg : Str → Option Value} {base : Heap} {CF CW CN CT fF : Addr}
def spGcd : Sp := fun vs H Q _ => ∃ a b : Nat, vs = [.int a, .int b] ∧ Q (.int (Nat.gcd a b : Nat)) H
theorem scGcd : FnScope ["a", "b", "remainder"] ["a", "b"] (defScope st_common_divisor) := ⟨rfl, rfl, rfl, by decide +kernel, rfl, by decide +kernel, by decide +kernel⟩
theorem okGcd {f : Addr} {fd : FuncData} (F : Fun K "common_divisor" "common_divisor" st_common_divisor f fd) : FnOk P w K mg base CX0 1 f fd ["a", "b"] spGcd := by
  refine F.ok scGcd (fun vs H Q E h => ?_) (fun cdv A outer s H vs Q E hr h => ?_)
  · obtain ⟨a, b, rfl, _⟩ := h
    rfl
  · obtain ⟨a, b, rfl, k⟩ := h
    refine ⟨_, pss_cons (ps_while PassesOwn.never (pt_cmpR op_ne (pv 1) pe_int (nomark _))
        (pss_cons (ps_set (i := 2) scGcd.nd rfl (Or.inl rfl) (pe_op op_mod (pv 0) (pv 1)))
        (pss_cons (ps_set (i := 0) scGcd.nd rfl (Or.inl rfl) (pv 1))
        (pss_one (ps_set (i := 1) scGcd.nd rfl (Or.inl rfl) (pv 2))))))
      (pss_one (ps_ret (pv 0))), ?_⟩
    refine while_by (fun σ H' => ∃ (a' b' : Nat) (v : Option V), σ = [some (.int a'), some (.int b'), v] ∧ H' = H ∧ Nat.gcd a' b' = Nat.gcd a b) (fun σ _ => match σ with | [_, some (.int b'), _] => b'.toNat | _ => 0) ⟨a, b, none, rfl, rfl, rfl⟩ ?_ ?_
    · rintro σ H' ⟨a', b', v, rfl, rfl, hg⟩
      refine ⟨_, rfl, rfl, _, rfl, ite2 (fun hc => ?_) (fun hc => ?_)⟩
      · have hb : b' ≠ 0 := fun z => by simp [z] at hc
        refine ⟨_, rfl, _, rfl, _, _, rfl, rfl, (by omega), ?_⟩
        refine ⟨_, rfl, _, rfl, ⟨b', a' % b', some (.int ((a' % b' : Nat) : Int)), ?_, rfl, ?_⟩, ?_⟩
        · show [some (V.int (b' : Int)), some (V.int ((a' : Int) % (b' : Int))), some (V.int ((a' : Int) % (b' : Int)))] = _
          rw [Int.natCast_emod]
        · rw [← hg, Nat.gcd_comm b' (a' % b'), ← Nat.gcd_rec, Nat.gcd_comm]
        · show ((a' : Int) % (b' : Int)).toNat < (b' : Int).toNat
          rw [← Int.natCast_emod]
          exact Nat.mod_lt _ (Nat.pos_of_ne_zero hb)
      · have hb : b' = 0 := by
          rcases Nat.eq_zero_or_pos b' with z | z
          · exact z
          · exact absurd (show _ = true by simp; omega) hc
        subst hb
        refine ⟨_, rfl, ?_⟩
        rw [Nat.gcd_zero_right] at hg
        rw [hg]
        exact k
    · rintro σ H' Q1 Q2 hq ⟨v, e, h1, b', e2, q⟩
      exact ⟨v, e, h1, b', e2, hq _ _ q⟩
end
end BK
end

section
set_option Elab.async false
set_option linter.all false
set_option maxRecDepth 100000
namespace BK
open PySem PySem.Spec PyProof.Rows L2 EX RD LM
def nV (n : Nat) : V := .int (n : Int)
section
variable {P : Program} {w : World} {K : PySem.W.Frag} {mg : Str → Option Value} {base : Heap} {CF CW CN CT fF : Addr}
def spLow : Sp := fun vs H Q _ => ∃ (n d k : Nat), vs = [.int n, .int d] ∧ 0 < d ∧ d < 2 ^ k ∧ k ≤ 9000 ∧ ∀ H' t, L2.Same H H' → H t = none → H' t = some (.tup (([((Fk.low (n, d)).1 : Int), ((Fk.low (n, d)).2 : Int)] : List Int).map V.int)) → Q (.ref t) H'
theorem scLow : FnScope ["numerator", "denominator", "divisor"] ["numerator", "denominator"] (defScope st_lowest) := ⟨rfl, rfl, rfl, by decide +kernel, rfl, by decide +kernel, by decide +kernel⟩
theorem okLow {f fG : Addr} {fd fdG : FuncData} (F : Fun K "lowest" "lowest" st_lowest f fd) (GG : FnOk P w K mg base CX0 1 fG fdG ["a", "b"] spGcd) (mG : mg "common_divisor" = some (.ref fG)) (kG : PySem.W.keepIn K (.ref fG) = true) (bG : Binds K fdG ["a", "b"] []) :
    FnOk P w K mg base CX0 2 f fd ["numerator", "denominator"] spLow := by
  refine F.ok scLow (fun vs H Q E h => ?_) (fun cdv A outer s H vs Q E hr h => ?_)
  · obtain ⟨n, d, k, rfl, _⟩ := h
    rfl
  · obtain ⟨n, d, k, rfl, hd, hk, hk9, q⟩ := h
    refine ⟨_, pss_cons (ps_set (i := 2) scLow.nd rfl (Or.inl rfl) (pe_call GG hr rfl mG kG bG .nil pass0 (pa_cons (pv 0) (pa_cons (pv 1) pa_nil))))
      (pss_one (ps_ret (pe_tup (pa_cons (pe_op op_fdivL (pv 0) (pv 2)) (pa_cons (pe_op op_fdivL (pv 1) (pv 2)) pa_nil))))), ?_⟩
    have g0 : 0 < Nat.gcd n d := Nat.gcd_pos_of_pos_right _ hd
    have g1 : Nat.gcd n d ≤ d := Nat.le_of_dvd hd (Nat.gcd_dvd_right _ _)
    have cd : ∀ i : Int, CDivL i ((Nat.gcd n d : Nat) : Int) := fun i => CDivL.of (k := k) (by omega) (by simp only [Int.natAbs_natCast]; omega) hk9
    refine ⟨_, rfl, _, rfl, n, d, rfl, ?_⟩
    refine ⟨_, rfl, _, rfl, _, _, rfl, rfl, cd _, _, rfl, _, rfl, _, _, rfl, rfl, cd _, (by show 2 ≤ sizeLine; decide), fun t ht => ?_⟩
    refine q _ t (RD.Same.new ht) ht ?_
    rw [upd_same]
    rfl
/-- paired's -/
def pr : List Nat → Option (List (Nat × Nat))
  | [] => some []
  | [_] => none
  | x :: y :: r => if y = 0 then none else (pr r).map (Fk.low (x, y) :: ·)
def prow (x : Nat × Nat) : List Int := [(x.1 : Int), (x.2 : Int)]
def spPair (K : PySem.W.Frag) (CW : Addr) : Sp := fun vs H Q E => ∃ (a : Addr) (ns : List Nat), vs = [.ref a] ∧ SqL K H a (ns.map nV) ∧ (∀ n ∈ ns, n < 2 ^ 64) ∧ ns.length ≤ 1000 ∧
  match pr ns with
  | some l => ∀ H' t ts, L2.Same H H' → H t = none → H' t = some (.lst (ts.map V.ref)) → Tups H' ts (l.map prow) → Q (.ref t) H'
  | none => ∀ H', L2.Same H H' → E (.ref CW) none H'
theorem scPair : FnScope ["numbers", "fractions", "k"] ["numbers"] (defScope st_paired) := ⟨rfl, rfl, rfl, by decide +kernel, rfl, by decide +kernel, by decide +kernel⟩
theorem pr_odd : ∀ (ns : List Nat), ns.length % 2 ≠ 0 → pr ns = none
  | [], h => by simp at h
  | [_], _ => rfl
  | x :: y :: r, h => by
    unfold pr
    split
    · rfl
    · rw [pr_odd r (by simp only [List.length_cons] at h; omega)]
      rfl
theorem pr_step {ns : List Nat} {i : Nat} (h : 2 * i + 1 < ns.length) : pr (ns.drop (2 * i)) = if ns[2 * i + 1]'(by omega) = 0 then none else (pr (ns.drop (2 * (i + 1)))).map (Fk.low (ns[2 * i]'(by omega), ns[2 * i + 1]'(by omega)) :: ·) := by
  rw [List.drop_eq_getElem_cons (show 2 * i < ns.length by omega), List.drop_eq_getElem_cons (show 2 * i + 1 < ns.length by omega)]
  rfl
theorem size_two (m : Nat) : Builtin.Range.rangeSize 0 ((2 * m : Nat) : Int) 2 = (m : Int) := by
  unfold Builtin.Range.rangeSize
  rw [if_pos (by decide)]
  split <;> omega
theorem fits_long {i : Int} (h0 : 0 ≤ i) (h1 : i ≤ 4000) : Builtin.Range.rangeFitsLong i = true := by
  unfold Builtin.Range.rangeFitsLong
  rw [Bool.and_eq_true, decide_eq_true_iff, decide_eq_true_iff]
  omega
theorem small_two {m : Nat} (h : m ≤ 1000) : Builtin.Range.small 0 ((2 * m : Nat) : Int) 2 = true := by
  unfold Builtin.Range.small
  rw [size_two, fits_long (by omega) (by omega), fits_long (by omega) (by omega), fits_long (by omega) (by omega), fits_long (by omega) (by omega), if_pos (by decide), fits_long (by omega) (by omega), Bool.or_true]
  rfl
theorem okPair {f fL : Addr} {fd fdL : FuncData} (F : Fun K "paired" "paired" st_paired f fd) (xw : XP K CW) (mW : mg "WrongNumbers" = some (.ref CW)) (hlen : mg "len" = none) (hran : mg "range" = none)
    (GL : FnOk P w K mg base CX0 2 fL fdL ["numerator", "denominator"] spLow) (mL : mg "lowest" = some (.ref fL)) (kL : PySem.W.keepIn K (.ref fL) = true) (bL : Binds K fdL ["numerator", "denominator"] []) :
    FnOk P w K mg base (CXF P w) 3 f fd ["numbers"] (spPair K CW) := by
  refine okX F scPair (fun vs H Q E h => ?_) (fun cdv A outer s H vs Q E hr h => ?_)
  · obtain ⟨a, ns, rfl, _⟩ := h
    rfl
  · obtain ⟨a, ns, rfl, hS, hb, hln, k⟩ := h
    refine ⟨_, pss_cons (ps_if (pt_cmpR op_ne (pe_op op_mod (pe_callB call_len_seq (by rfl) hlen PySem.boot_len (pa_cons (pv 0) pa_nil)) pe_int) pe_int (nomark _))
        (pss_one (ps_raiseP xw rfl rfl rfl mW raises_fn)) pss_nil)
      (pss_cons (ps_set (i := 1) scPair.nd rfl (Or.inl rfl) (pe_lst pa_nil))
      (pss_cons (ps_for own_fn rfl (pi_range3 rfl hran (pa_cons pe_int (pa_cons (pe_callB call_len_seq (by rfl) hlen PySem.boot_len (pa_cons (pv 0) pa_nil)) (pa_cons pe_int pa_nil)))) (pg_name (i := 2) scPair.nd rfl (Or.inl rfl))
        (pss_cons (ps_if (pt_cmpR op_eq (pe_ix ix_list (pv 0) (pe_op op_add (pv 2) pe_int) (fun _ _ => rfl)) pe_int (nomark _)) (pss_one (ps_raiseP xw rfl rfl rfl mW raises_fn)) pss_nil)
        (pss_one (ps_expr (pe_bm PySem.F.plainAttrs_list PySem.F.slot_list_append PySem.F.type_list_append mt_append (pv 1)
          (pa_cons (pe_call GL hr rfl mL kL bL .nil pass0 (pa_cons (pe_ix ix_list (pv 0) (pv 2) (fun _ _ => rfl)) (pa_cons (pe_ix ix_list (pv 0) (pe_op op_add (pv 2) pe_int) (fun _ _ => rfl)) pa_nil))) pa_nil))))))
      (pss_one (ps_ret (pv 1))))), ?_⟩
    refine ⟨_, rfl, a, _, rfl, .inl hS, _, _, rfl, rfl, (by show (0 : Int) < 2; decide), rfl, _, rfl, ite2 (fun hc => ?_) (fun hc => ?_)⟩
    · have ho : ns.length % 2 ≠ 0 := by
        intro z
        simp only [List.length_map] at hc
        simp at hc
        omega
      rw [pr_odd ns ho] at k
      exact k H (Same.refl H)
    · have he : ns.length % 2 = 0 := by
        rcases Nat.mod_two_eq_zero_or_one ns.length with z | z
        · exact z
        · exact absurd (show _ = true by simp only [List.length_map]; simp; omega) hc
      refine ⟨Nat.zero_le _, fun l hl => ?_⟩
      have nl : H l = none := hl
      have sl : L2.Same H (upd H l (.lst [])) := RD.Same.new hl
      obtain ⟨m, hm⟩ : ∃ m, ns.length = 2 * m := ⟨ns.length / 2, by omega⟩
      have gi : ∀ {j : Nat} {x : V}, (ns.map nV)[j]? = some x → True := fun _ => trivial
      refine ⟨_, rfl, a, _, rfl, .inl (sl.seq hS), 0, (ns.length : Int), 2, m, ?_, ?_, for_rangeC (lo := 0) (c := 2) (n := m) (fun i σ H' => ∃ (v : Option V) (acc : List (Nat × Nat)) (ts : List Addr),
        σ = [some (.ref a), some (.ref l), v] ∧ L2.Same H H' ∧ H' l = some (.lst (ts.map V.ref)) ∧ Tups H' ts (acc.map prow) ∧ acc.length = i ∧ pr ns = (pr (ns.drop (2 * i))).map (acc ++ ·))
        ⟨none, [], [], rfl, sl, upd_same, Tups.nil, rfl, ?_⟩ ?_ ?_⟩
      · rw [List.length_map]
      · refine ⟨by decide, by decide, ?_, ?_⟩
        · rw [hm]
          exact small_two (by omega)
        · rw [hm]
          exact size_two m
      · rw [Nat.mul_zero, List.drop_zero]
        cases pr ns <;> rfl
      · rintro i σ H' hi ⟨v, acc, ts, rfl, s1, h1, hT, ha, hp⟩
        have S1 := s1.seq hS
        have l1 : 2 * i + 1 < ns.length := by omega
        have l0 : 2 * i < ns.length := by omega
        rw [pr_step l1] at hp
        refine ⟨_, rfl, _, rfl, _, _, rfl, rfl, a, _, _, nV ns[2 * i + 1], rfl, rfl, S1, ?g1, rfl, _, rfl, ite2 (fun hc => ?_) (fun hc => ?_)⟩
        case g1 =>
          have e : ((0 : Int) + (i : Nat) * 2 + 1) = ((2 * i + 1 : Nat) : Int) := by push_cast; omega
          rw [e]
          exact atI_nat (by rw [List.getElem?_map, List.getElem?_eq_getElem l1]; rfl)
        · have z : ns[2 * i + 1] = 0 := by
            simp [nV] at hc
            exact hc
          rw [if_pos z] at hp
          rw [hp] at k
          exact k H' s1
        · have z : ns[2 * i + 1] ≠ 0 := fun z => hc (by simp [nV, z])
          rw [if_neg z] at hp
          have e0 : ((0 : Int) + (i : Nat) * 2) = ((2 * i : Nat) : Int) := by push_cast; omega
          have e1 : ((0 : Int) + (i : Nat) * 2 + 1) = ((2 * i + 1 : Nat) : Int) := by push_cast; omega
          refine ⟨_, rfl, .inl ⟨rfl, _, SqL.of h1⟩, _, rfl, _, rfl, a, _, _, nV ns[2 * i], rfl, rfl, S1, ?g2, _, rfl, _, rfl, _, _, rfl, rfl, a, _, _, nV ns[2 * i + 1], rfl, rfl, S1, ?g3, ns[2 * i], ns[2 * i + 1], 64, rfl, Nat.pos_of_ne_zero z, hb _ (List.getElem_mem l1), by decide, fun H2 t s2 nt ht => ?_⟩
          case g2 => rw [e0]; exact atI_nat (by rw [List.getElem?_map, List.getElem?_eq_getElem l0]; rfl)
          case g3 => rw [e1]; exact atI_nat (by rw [List.getElem?_map, List.getElem?_eq_getElem l1]; rfl)
          have h2 := s2 _ _ h1
          have tl : t ≠ l := fun e => by rw [e, h1] at nt; cases nt
          refine ⟨l, _, _, rfl, rfl, h2, (by rw [List.length_map, hT.1, List.length_map, ha, sizeLine_eq]; omega), ?_⟩
          have s3 : L2.Same H (upd H2 l (.lst (ts.map V.ref ++ [.ref t]))) := fun b o e => by rw [upd_ne (ne_of_none e nl)]; exact s2 _ _ (s1 _ _ e)
          refine ⟨_, acc ++ [Fk.low (ns[2 * i], ns[2 * i + 1])], ts ++ [t], rfl, s3, ?_, ?_, by simp [ha], ?_⟩
          · rw [upd_same, List.map_append]; rfl
          · rw [List.map_append]
            refine Tups.snoc (hT.same fun b xs e => ?_) ?_
            · have e2 := s2 _ _ e
              rw [upd_ne (ne_of e2 h2 (by intro y; cases y))]
              exact e2
            · rw [upd_ne tl]; exact ht
          · rw [hp]
            cases pr (ns.drop (2 * (i + 1))) with
            | none => rfl
            | some y => simp
      · rintro σ H' ⟨v, acc, ts, rfl, s1, h1, hT, ha, hp⟩
        rw [List.drop_eq_nil_of_le (by omega)] at hp
        have e : pr ([] : List Nat) = some [] := rfl
        rw [e] at hp
        simp only [Option.map_some, List.append_nil] at hp
        rw [hp] at k
        exact ⟨_, rfl, k H' l ts s1 nl h1 hT⟩
end
end BK
end

section
set_option Elab.async false
set_option linter.all false
set_option maxRecDepth 100000
namespace BK
open PySem PySem.Spec PyProof.Rows L2 EX RD LM
/-- the scope of the comprehension that a body returns -/
def lcScope (b : List Stmt) : Scope := match b.getLast? with
  | some (.Return (some (.ListComp _ _ sc _)) _) => sc
  | _ => { kind := .function, names := [], isGenerator := false, isCoroutine := false }
section
variable {P : Program} {w : World} {K : PySem.W.Frag} {mg : Str → Option Value} {base : Heap} {CF CW CN CT fF : Addr}
def spAbove (K : PySem.W.Frag) (CT : Addr) : Sp := fun vs H Q E => ∃ (m : Int) (a : Addr) (xs : List Int), vs = [.int m, .ref a] ∧ SqL K H a (xs.map V.int) ∧ ((xs.any fun x => decide (m < x)) = false → Q .non H) ∧ ((xs.any fun x => decide (m < x)) = true → E (.ref CT) none H)
theorem scAbove : FnScope ["most", "numbers", "number"] ["most", "numbers"] (defScope st_refuse_above) := ⟨rfl, rfl, rfl, by decide +kernel, rfl, by decide +kernel, by decide +kernel⟩
theorem okAbove {f : Addr} {fd : FuncData} (F : Fun K "refuse_above" "refuse_above" st_refuse_above f fd) (xt : XP K CT) (mT : mg "TooGreat" = some (.ref CT)) : FnOk P w K mg base (CXF P w) 2 f fd ["most", "numbers"] (spAbove K CT) := by
  refine okX F scAbove (fun vs H Q E h => ?_) (fun cdv A outer s H vs Q E hr h => ?_)
  · obtain ⟨m, a, xs, rfl, _⟩ := h
    rfl
  · obtain ⟨m, a, xs, rfl, hS, k1, k2⟩ := h
    refine ⟨_, pss_one (ps_for own_fn rfl (pi_list (pv 1)) (pg_name (i := 2) scAbove.nd rfl (Or.inl rfl))
      (pss_one (ps_if (pt_cmpR op_gt (pv 2) (pv 0) (nomark _)) (pss_one (ps_raiseP xt rfl rfl rfl mT raises_fn)) pss_nil))), ?_⟩
    refine ⟨_, rfl, a, rfl, ⟨_, hS⟩, for_list (K := K) (a := a) (xs := xs.map V.int) (fun i σ H' => ∃ v : Option V, σ = [some (.int m), some (.ref a), v] ∧ H' = H ∧ ((xs.take i).any fun x => decide (m < x)) = false)
      ⟨none, rfl, rfl, rfl⟩ (fun i σ H' _ ⟨_, _, e, _⟩ => by rw [e]; exact hS) ?_ ?_⟩
    · rintro i y σ H' hi ⟨v, rfl, rfl, hf⟩
      rw [List.getElem?_map] at hi
      cases e : xs[i]? with
      | none => rw [e] at hi; cases hi
      | some z =>
        rw [e] at hi
        cases hi
        refine ⟨_, rfl, _, rfl, _, _, rfl, rfl, _, rfl, ite2 (fun hc => ?_) (fun hc => ?_)⟩
        · exact k2 (List.any_eq_true.mpr ⟨z, List.mem_of_getElem? e, hc⟩)
        · refine ⟨_, rfl, rfl, ?_⟩
          have hlt := (List.getElem?_eq_some_iff.mp e).1
          rw [List.take_succ, e, List.any_append, hf]
          simp only [Option.toList, List.any_cons, List.any_nil, Bool.or_false, Bool.false_or]
          exact Bool.eq_false_iff.mpr hc
    · rintro σ H' ⟨v, rfl, rfl, hf⟩
      rw [List.length_map, List.take_length] at hf
      exact k1 hf
def spRow : Sp := fun vs H Q _ => ∃ (a : Addr) (xs : List V), vs = [.ref a] ∧ H a = some (.lst xs) ∧ 1 + xs.length ≤ sizeLine ∧ ∀ H' t, L2.Same H H' → H t = none → H' t = some (.lst (.int (xs.length : Int) :: xs)) → Q (.ref t) H'
theorem scRow : FnScope ["numbers"] ["numbers"] (defScope st_row) := ⟨rfl, rfl, rfl, by decide +kernel, rfl, by decide +kernel, by decide +kernel⟩
theorem okRow {f : Addr} {fd : FuncData} (F : Fun K "row" "row" st_row f fd) (hlen : mg "len" = none) : FnOk P w K mg base CX0 1 f fd ["numbers"] spRow := by
  refine F.ok scRow (fun vs H Q E h => ?_) (fun cdv A outer s H vs Q E hr h => ?_)
  · obtain ⟨a, xs, rfl, _⟩ := h
    rfl
  · obtain ⟨a, xs, rfl, ha, hl, k⟩ := h
    refine ⟨_, pss_one (ps_ret (pe_op op_cat (pe_lst (pa_cons (pe_callB call_len_seq (by rfl) hlen PySem.boot_len (pa_cons (pv 0) pa_nil)) pa_nil)) (pv 0))), ?_⟩
    refine ⟨_, rfl, a, _, rfl, .inl (SqL.of ha), (by show 1 ≤ sizeLine; decide), fun l hn => ?_⟩
    have s1 : L2.Same H (upd H l (.lst [.int (xs.length : Int)])) := RD.Same.new hn
    refine ⟨_, rfl, l, a, _, _, rfl, rfl, upd_same, s1 _ _ ha, hl, fun t ht => ?_⟩
    exact k _ t (s1.trans (RD.Same.new ht)) (s1.free ht) upd_same
/-- least_ratio's -/
def spLeast : Sp := fun vs H Q _ => ∃ (a : Addr) (ts : List Addr) (am : List (Nat × Nat)), vs = [.ref a] ∧ H a = some (.lst (ts.map V.ref)) ∧ Tups H ts (am.map prow) ∧ (∀ x ∈ am, 0 < x.1 ∧ x.1 < 2 ^ 64 ∧ 0 < x.2 ∧ x.2 < 2 ^ 64) ∧ am.length ≤ 1000 ∧
  ∀ H' t, L2.Same H H' → H t = none → H' t = some (.lst ((RT.leastM am).map nV)) → Q (.ref t) H'
theorem scLeast : FnScope ["fractions", "numerator", "denominator", "fraction"] ["fractions"] (defScope st_least_ratio) := ⟨rfl, rfl, rfl, by decide +kernel, rfl, by decide +kernel, by decide +kernel⟩
theorem gf_pos : ∀ (l : List Nat) (a : Nat), (0 < a ∨ ∃ x ∈ l, 0 < x) → 0 < l.foldl Nat.gcd a
  | [], a, h => by
    rcases h with h | ⟨x, hx, _⟩
    · exact h
    · simp at hx
  | y :: l, a, h => by
    rw [List.foldl_cons]
    refine gf_pos l _ ?_
    rcases h with h | ⟨x, hx, hp⟩
    · exact .inl (Nat.gcd_pos_of_pos_left _ h)
    · rcases List.mem_cons.mp hx with rfl | hx
      · exact .inl (Nat.gcd_pos_of_pos_right _ hp)
      · exact .inr ⟨x, hx, hp⟩
theorem gcds_le {am : List (Nat × Nat)} {x : Nat × Nat} (hx : x ∈ am) (h0 : 0 < x.1) : 0 < RT.gcds (am.map (·.1)) ∧ RT.gcds (am.map (·.1)) ≤ x.1 :=
  ⟨gf_pos _ _ (.inr ⟨x.1, List.mem_map_of_mem hx, h0⟩), Nat.le_of_dvd h0 ((RT.gfold_dvd _ 0).2 _ (List.mem_map_of_mem hx))⟩
theorem item_at {H : Hp} {ts : List Addr} {am : List (Nat × Nat)} {i : Nat} {y : V} (hT : Tups H ts (am.map prow)) (hi : (ts.map V.ref)[i]? = some y) : ∃ t x, y = .ref t ∧ ts[i]? = some t ∧ am[i]? = some x ∧ H t = some (.tup [.int (x.1 : Int), .int (x.2 : Int)]) := by
  rw [List.getElem?_map] at hi
  cases e : ts[i]? with
  | none => rw [e] at hi; cases hi
  | some t =>
    rw [e] at hi
    cases hi
    have hlt := (List.getElem?_eq_some_iff.mp e).1
    have hla : i < am.length := by have := hT.1; rw [List.length_map] at this; omega
    refine ⟨t, am[i], rfl, rfl, List.getElem?_eq_getElem hla, ?_⟩
    exact hT.2 i t (prow am[i]) e (by rw [List.getElem?_map, List.getElem?_eq_getElem hla]; rfl)
theorem blkLeast : BlkOk ["fractions", "numerator", "denominator", "fraction"] (defScope st_least_ratio) (lcScope (defBody st_least_ratio)) [("fraction", 3)] := ⟨rfl, by decide +kernel, by decide +kernel, by decide +kernel, by decide +kernel⟩
end
end BK
end

section
set_option Elab.async false
set_option linter.all false
set_option maxRecDepth 100000
namespace BK
open PySem PySem.Spec PyProof.Rows L2 EX RD LM
section
variable {P : Program} {w : World} {K : PySem.W.Frag} {mg : Str → Option Value} {base : Heap} {CF CW CN CT fF : Addr}
theorem take_foldl {α : Type} (g : α → Nat → α) (a : α) (l : List Nat) (i : Nat) (x : Nat) (h : l[i]? = some x) : (l.take (i + 1)).foldl g a = g ((l.take i).foldl g a) x := by
  rw [List.take_succ, h, List.foldl_append]; rfl
theorem okLeast {f fG : Addr} {fd fdG : FuncData} (F : Fun K "least_ratio" "least_ratio" st_least_ratio f fd) (GG : FnOk P w K mg base CX0 1 fG fdG ["a", "b"] spGcd) (mG : mg "common_divisor" = some (.ref fG)) (kG : PySem.W.keepIn K (.ref fG) = true) (bG : Binds K fdG ["a", "b"] []) :
    FnOk P w K mg base CX0 2 f fd ["fractions"] spLeast := by
  refine F.ok scLeast (fun vs H Q E h => ?_) (fun cdv A outer s H vs Q E hr h => ?_)
  · obtain ⟨a, ts, am, rfl, _⟩ := h
    rfl
  · obtain ⟨a, ts, am, rfl, ha, hT, hb, hln, k⟩ := h
    refine ⟨_, pss_cons (ps_set (i := 1) scLeast.nd rfl (Or.inr rfl) pe_int)
      (pss_cons (ps_set (i := 2) scLeast.nd rfl (Or.inr rfl) pe_int)
      (pss_cons (ps_for PassesOwn.never rfl (pi_list (pv 0)) (pg_name (i := 3) scLeast.nd rfl (Or.inl rfl))
        (pss_cons (ps_set (i := 1) scLeast.nd rfl (Or.inr rfl) (pe_call GG hr rfl mG kG bG .nil pass0 (pa_cons (pv 1) (pa_cons (pe_ix ix_tup (pv 3) pe_int (fun _ _ => rfl)) pa_nil))))
        (pss_one (ps_aug (i := 2) scLeast.nd rfl (Or.inr rfl) (pe_op op_fdivL (pe_ix ix_tup (pv 3) pe_int (fun _ _ => rfl)) (pe_call GG hr rfl mG kG bG .nil pass0 (pa_cons (pv 2) (pa_cons (pe_ix ix_tup (pv 3) pe_int (fun _ _ => rfl)) pa_nil)))) in_mul))))
      (pss_one (ps_ret (pe_lc rfl scLeast.nd (pi_list (pv 0)) blkLeast (fun s H C cl fp => pg_name (i := 3) scLeast.nd rfl (Or.inl rfl)) (fun s H C cl fp => pts_nil)
        (fun s H C cl fp => pe_op op_mul (pe_op op_fdivL (pe_ix (ix_tupK K rfl) (pv 3) pe_int (fun _ _ => rfl)) (pv 1)) (pe_op op_fdivL (pv 2) (pe_ix (ix_tupK K rfl) (pv 3) pe_int (fun _ _ => rfl))))))))), ?_⟩
    refine ⟨_, rfl, a, rfl, ⟨_, SqL.of ha⟩, for_list (K := K) (a := a) (xs := ts.map V.ref) (fun i σ H' => ∃ v : Option V, σ = [some (.ref a), some (nV (((am.map (·.1)).take i).foldl Nat.gcd 0)), some (nV (((am.map (·.2)).take i).foldl RT.lcmS 1)), v] ∧ H' = H)
      ⟨none, rfl, rfl⟩ (fun i σ H' _ ⟨_, _, e⟩ => by rw [e]; exact SqL.of ha) ?_ ?_⟩
    · rintro i y σ H' hi ⟨v, rfl, rfl⟩
      obtain ⟨t, x, rfl, ht, hx, hH⟩ := item_at hT hi
      obtain ⟨x1, x2, x3, x4⟩ := hb x (List.mem_of_getElem? hx)
      have e1 : (am.map (·.1))[i]? = some x.1 := by rw [List.getElem?_map, hx]; rfl
      have e2 : (am.map (·.2))[i]? = some x.2 := by rw [List.getElem?_map, hx]; rfl
      have gp : ∀ d : Nat, 0 < Nat.gcd d x.2 := fun d => Nat.gcd_pos_of_pos_right _ x3
      have gl : ∀ d : Nat, Nat.gcd d x.2 ≤ x.2 := fun d => Nat.le_of_dvd x3 (Nat.gcd_dvd_right _ _)
      refine ⟨_, rfl, _, rfl, t, _, _, _, rfl, rfl, SqT.of hH, rfl, _, _, rfl, ?_⟩
      refine ⟨_, rfl, _, rfl, t, _, _, _, rfl, rfl, SqT.of hH, rfl, _, rfl, _, rfl, t, _, _, _, rfl, rfl, SqT.of hH, rfl, _, _, rfl, _, _, rfl, rfl, CDivL.of (k := 64) (by have := gp (((am.map (·.2)).take i).foldl RT.lcmS 1); omega) (by simp only [Int.natAbs_natCast]; have := gl (((am.map (·.2)).take i).foldl RT.lcmS 1); omega) (by decide), _, _, rfl, rfl, .inr ?_, ?_⟩
      · have h1 : ((x.2 : Int) / ((Nat.gcd (((am.map (·.2)).take i).foldl RT.lcmS 1) x.2 : Nat) : Int)) = ((x.2 / Nat.gcd (((am.map (·.2)).take i).foldl RT.lcmS 1) x.2 : Nat) : Int) := (Int.natCast_ediv ..).symm
        have h2 : x.2 / Nat.gcd (((am.map (·.2)).take i).foldl RT.lcmS 1) x.2 ≤ x.2 := Nat.div_le_self _ _
        rw [h1]
        generalize x.2 / Nat.gcd (((am.map (·.2)).take i).foldl RT.lcmS 1) x.2 = q at h2
        constructor <;> omega
      · refine ⟨some (.ref t), ?_, rfl⟩
        rw [take_foldl Nat.gcd 0 _ i _ e1, take_foldl RT.lcmS 1 _ i _ e2]
        show [some (V.ref a), some (nV _), some (V.int _), some (V.ref t)] = _
        unfold RT.lcmS nV
        rw [Int.natCast_mul, Int.natCast_ediv]
    · rintro σ H' ⟨v, rfl, rfl⟩
      have l1 : (ts.map V.ref).length = am.length := by rw [List.length_map, hT.1, List.length_map]
      rw [l1]
      have tk1 : (am.map (·.1)).take am.length = am.map (·.1) := List.take_of_length_le (by rw [List.length_map]; exact Nat.le_refl _)
      have tk2 : (am.map (·.2)).take am.length = am.map (·.2) := List.take_of_length_le (by rw [List.length_map]; exact Nat.le_refl _)
      rw [tk1, tk2]
      generalize hG : (am.map (·.1)).foldl Nat.gcd 0 = G
      generalize hL : (am.map (·.2)).foldl RT.lcmS 1 = L
      have hlm : RT.leastM am = am.map fun x => x.1 / G * (L / x.2) := by
        unfold RT.leastM RT.gcds RT.lcms
        rw [hG, hL]
      refine ⟨_, rfl, a, rfl, ⟨_, SqL.of ha⟩, fun D hD => lc_list (K := K) (a := a) (xs := ts.map V.ref) (fun i H2 => L2.Same H' H2 ∧ H2 D = some (.lst (((RT.leastM am).take i).map nV)))
        ⟨RD.Same.new hD, upd_same⟩ (fun i H2 _ h => SqL.of (h.1 _ _ ha)) ?_ ?_⟩
      · rintro i y H2 hi ⟨s1, hd⟩
        obtain ⟨t, x, rfl, ht, hx, hH⟩ := item_at hT hi
        have hH2 := s1 _ _ hH
        have xm := List.mem_of_getElem? hx
        obtain ⟨x1, x2, x3, x4⟩ := hb x xm
        have g1 := gcds_le xm x1
        unfold RT.gcds at g1
        rw [hG] at g1
        refine ⟨rfl, _, rfl, t, _, _, _, rfl, rfl, SqT.of hH2, rfl, _, rfl, _, _, rfl, rfl, CDivL.of (k := 64) (by omega) (by simp only [Int.natAbs_natCast]; omega) (by decide), _, rfl, _, rfl, t, _, _, _, rfl, rfl, SqT.of hH2, rfl, _, _, rfl, rfl,
          CDivL.of (k := 64) (by omega) (by simp only [Int.natAbs_natCast]; omega) (by decide), _, _, rfl, rfl, .inl ?_, _, hd, ?_, ?_, ?_⟩
        · have h1 : ((x.1 : Int) / (G : Int)) = ((x.1 / G : Nat) : Int) := (Int.natCast_ediv ..).symm
          have h2 : x.1 / G ≤ x.1 := Nat.div_le_self _ _
          rw [h1]
          generalize x.1 / G = q at h2
          constructor <;> omega
        · rw [List.length_map, List.length_take, sizeLine_eq]
          have : (RT.leastM am).length = am.length := by rw [hlm, List.length_map]
          omega
        · exact fun b o e => by rw [upd_ne (fun z => by rw [z, hD] at e; cases e)]; exact s1 b o e
        · rw [upd_same]
          have e3 : (RT.leastM am)[i]? = some (x.1 / G * (L / x.2)) := by rw [hlm, List.getElem?_map, hx]; rfl
          rw [List.take_succ, e3, List.map_append]
          show some (HO.lst (_ ++ [V.int _])) = some (HO.lst (_ ++ [nV _]))
          unfold nV
          rw [Int.natCast_mul, Int.natCast_ediv, Int.natCast_ediv]
      · rintro H2 ⟨s1, hd⟩
        rw [List.take_of_length_le (by rw [l1, hlm, List.length_map]; exact Nat.le_refl _)] at hd
        exact k H2 D s1 hD hd
end
end BK
end

section
set_option Elab.async false
set_option linter.all false
set_option maxRecDepth 100000
namespace BK
open PySem PySem.Spec PyProof.Rows L2 EX RD LM
theorem pr_eq : ∀ (ns : List Nat), pr ns = (match FkS.fracsOf ns with | none => none | some l => if l.any (fun x => x.2 == 0) = true then none else some (l.map Fk.low))
  | [] => rfl
  | [_] => rfl
  | x :: y :: r => by
    have ih := pr_eq r
    have e : FkS.fracsOf (x :: y :: r) = match FkS.fracsOf r with | some z => some ((x, y) :: z) | none => none := rfl
    rw [e]
    unfold pr
    rw [ih]
    cases FkS.fracsOf r with
    | none =>
      show (if y = 0 then none else Option.map _ none) = none
      split <;> rfl
    | some l =>
      show (if y = 0 then none else Option.map _ (if l.any (fun x => x.2 == 0) = true then none else some (l.map Fk.low))) = if ((x, y) :: l).any (fun x => x.2 == 0) = true then none else some (((x, y) :: l).map Fk.low)
      rw [List.any_cons]
      by_cases hy : y = 0
      · simp [hy]
      · rw [if_neg hy]
        have : (y == 0) = false := by simp [hy]
        show _ = if ((y == 0) || _) = true then _ else _
        rw [this, Bool.false_or]
        split <;> rfl
theorem ratioM_eq (ns : List Nat) : RT.ratioM ns = match pr ns with
    | none => [-1]
    | some am => if am.contains (0, 1) = true then [-1] else if (RT.leastM am).any (fun n => decide (18446744073709551615 < n)) = true then [-6] else 0 :: ((RT.leastM am).length : Int) :: (RT.leastM am).map Int.ofNat := by
  rw [pr_eq]
  unfold RT.ratioM
  cases FkS.fracsOf ns with
  | none => rfl
  | some l =>
    show (if l.any (fun x => x.2 == 0) = true then [-1] else _) = _
    by_cases h : l.any (fun x => x.2 == 0) = true
    · rw [if_pos h]
      show _ = match (if l.any (fun x => x.2 == 0) = true then none else some (l.map Fk.low)) with | none => _ | some am => _
      rw [if_pos h]
    · rw [if_neg h]
      show _ = match (if l.any (fun x => x.2 == 0) = true then none else some (l.map Fk.low)) with | none => _ | some am => _
      rw [if_neg h]
theorem pr_bound : ∀ (ns : List Nat) (am : List (Nat × Nat)), pr ns = some am → (∀ n ∈ ns, n < 2 ^ 64) → (∀ x ∈ am, x.1 < 2 ^ 64 ∧ 0 < x.2 ∧ x.2 < 2 ^ 64 ∧ (x.1 = 0 → x = (0, 1))) ∧ 2 * am.length = ns.length
  | [], am, h, _ => by cases h; exact ⟨fun x hx => by simp at hx, rfl⟩
  | [_], am, h, _ => by cases h
  | x :: y :: r, am, h, hb => by
    unfold pr at h
    split at h
    · cases h
    · rename_i hy
      cases e : pr r with
      | none => rw [e] at h; cases h
      | some am' =>
        rw [e] at h
        cases h
        obtain ⟨h1, h2⟩ := pr_bound r am' e fun n hn => hb n (by simp [hn])
        refine ⟨fun z hz => ?_, by simp only [List.length_cons]; omega⟩
        rcases List.mem_cons.mp hz with rfl | hz
        · have hx := hb x (by simp)
          have hy' := hb y (by simp)
          have yp : 0 < y := Nat.pos_of_ne_zero hy
          refine ⟨Nat.lt_of_le_of_lt (Nat.div_le_self _ _) hx, (RT.low_ok (x := (x, y)) yp).1, Nat.lt_of_le_of_lt (Nat.div_le_self _ _) hy', fun z => ?_⟩
          refine (RT.low_zero (x := (x, y)) yp).mpr ?_
          have z : x / Nat.gcd x y = 0 := z
          have := Nat.div_mul_cancel (Nat.gcd_dvd_left x y)
          rw [z] at this
          show x = 0
          omega
        · exact h1 z hz
theorem has_prow (am : List (Nat × Nat)) : (am.map prow).contains [(0 : Int), 1] = am.contains (0, 1) := by
  rw [Bool.eq_iff_iff, List.contains_iff_mem, List.contains_iff_mem]
  constructor
  · intro h
    obtain ⟨x, hx, e⟩ := List.mem_map.mp h
    unfold prow at e
    injection e with e1 e2
    injection e2 with e2 _
    have : x = (0, 1) := by
      have a : x.1 = 0 := by omega
      have b : x.2 = 1 := by omega
      rw [← a, ← b]
    rw [← this]; exact hx
  · intro h
    exact List.mem_map.mpr ⟨_, h, rfl⟩
section
variable {P : Program} {w : World} {K : PySem.W.Frag} {mg : Str → Option Value} {base : Heap} {CF CW CN CT fF : Addr}
def spTell (K : PySem.W.Frag) (CF CW CN CT : Addr) : Sp := fun vs H Q E => ∃ (a : Addr) (ns : List Nat), vs = [.ref a] ∧ SqL K H a (ns.map nV) ∧ (∀ n ∈ ns, n < 2 ^ 64) ∧ ns.length ≤ 1000 ∧
  (∀ H' t xs, L2.Same H H' → H t = none → H' t = some (.lst (xs.map V.int)) → RT.ratioM ns = 0 :: xs → Q (.ref t) H') ∧ ∀ cls d H', Refuse CF CW CN CT (RT.ratioM ns) cls d H' → E cls d H'
theorem scTell : FnScope ["fractions", "amounts", "wholes"] ["fractions"] (defScope st_tell_ratio) := ⟨rfl, rfl, rfl, by decide +kernel, rfl, by decide +kernel, by decide +kernel⟩
theorem okTell {f fP fL fA fR : Addr} {fd fdP fdL fdA fdR : FuncData} (F : Fun K "tell_ratio" "tell_ratio" st_tell_ratio f fd) (T : TA4 K mg CF CW CN CT fF) (cM : ∃ u, mg "MOST_TOLD" = some u ∧ RelV (.int 18446744073709551615) u)
    (GP : FnOk P w K mg base (CXF P w) 3 fP fdP ["numbers"] (spPair K CW)) (mP : mg "paired" = some (.ref fP)) (kP : PySem.W.keepIn K (.ref fP) = true) (bP : Binds K fdP ["numbers"] [])
    (GL : FnOk P w K mg base CX0 2 fL fdL ["fractions"] spLeast) (mL : mg "least_ratio" = some (.ref fL)) (kL : PySem.W.keepIn K (.ref fL) = true) (bL : Binds K fdL ["fractions"] [])
    (GA : FnOk P w K mg base (CXF P w) 2 fA fdA ["most", "numbers"] (spAbove K CT)) (mA : mg "refuse_above" = some (.ref fA)) (kA : PySem.W.keepIn K (.ref fA) = true) (bA : Binds K fdA ["most", "numbers"] [])
    (GR : FnOk P w K mg base CX0 1 fR fdR ["numbers"] spRow) (mR : mg "row" = some (.ref fR)) (kR : PySem.W.keepIn K (.ref fR) = true) (bR : Binds K fdR ["numbers"] []) :
    FnOk P w K mg base (CXF P w) 4 f fd ["fractions"] (spTell K CF CW CN CT) := by
  refine okX F scTell (fun vs H Q E h => ?_) (fun cdv A outer s H vs Q E hr h => ?_)
  · obtain ⟨a, ns, rfl, _⟩ := h
    rfl
  · obtain ⟨a, ns, rfl, hS, hb, hln, k1, k2⟩ := h
    have hr2 : Room 2 _ := hr.mono (by decide)
    have hr1 : Room 1 _ := hr.mono (by decide)
    refine ⟨_, pss_cons (ps_set (i := 1) scTell.nd rfl (Or.inl rfl) (pe_call GP hr rfl mP kP bP .nil passes_fn (pa_cons (pv 0) pa_nil)))
      (pss_cons (ps_if (pt_cmpR (op_inT (hu_of hr)) (pe_tup (pa_cons pe_int (pa_cons pe_int pa_nil))) (pv 1) rfl) (pss_one (ps_raiseP T.xw rfl rfl rfl T.mW raises_fn)) pss_nil)
      (pss_cons (ps_set (i := 2) scTell.nd rfl (Or.inl rfl) (pe_call GL hr2 rfl mL kL bL .nil pass0 (pa_cons (pv 1) pa_nil)))
      (pss_cons (ps_expr (pe_call GA hr2 rfl mA kA bA .nil passes_fn (pa_cons (pe_gc rfl cM) (pa_cons (pv 2) pa_nil))))
      (pss_one (ps_ret (pe_call GR hr1 rfl mR kR bR .nil pass0 (pa_cons (pv 2) pa_nil))))))), ?_⟩
    rw [ratioM_eq] at k1 k2
    refine ⟨_, rfl, a, ns, rfl, hS, hb, hln, ?_⟩
    cases e : pr ns with
    | none =>
      rw [e] at k2
      exact fun H' s1 => k2 _ _ _ (.inr (.inl ⟨rfl, rfl⟩))
    | some am =>
      rw [e] at k1 k2
      dsimp only at k1 k2
      obtain ⟨hbd, hln2⟩ := pr_bound ns am e hb
      intro H1 t ts s1 nt ht hT
      refine ⟨(by show 2 ≤ sizeLine; decide), fun u hu => ⟨_, rfl, t, u, ts, [0, 1], am.map prow, rfl, rfl, upd_same, ?_, ?_, _, rfl, ?_⟩⟩
      · rw [upd_ne (ne_of_none ht hu)]; exact ht
      · exact hT.same fun b xs z => by rw [upd_ne (ne_of_none z hu)]; exact z
      · rw [has_prow]
        have s2 : L2.Same H (upd H1 u (.tup (([0, 1] : List Int).map V.int))) := s1.trans (RD.Same.new hu)
        refine ite2 (fun hc => ?_) (fun hc => ?_)
        · rw [if_pos hc] at k2
          exact k2 _ _ _ (.inr (.inl ⟨rfl, rfl⟩))
        · rw [if_neg hc] at k1 k2
          have ht2 : upd H1 u (.tup (([0, 1] : List Int).map V.int)) t = some (.lst (ts.map V.ref)) := by rw [upd_ne (ne_of_none ht hu)]; exact ht
          refine ⟨_, rfl, t, ts, am, rfl, ht2, hT.same fun b xs z => by rw [upd_ne (ne_of_none z hu)]; exact z, fun x hx => ?_, by omega, fun H3 v s3 nv hv => ?_⟩
          · obtain ⟨a1, a2, a3, a4⟩ := hbd x hx
            refine ⟨Nat.pos_of_ne_zero fun z => hc ?_, a1, a2, a3⟩
            rw [List.contains_iff_mem, ← a4 z]
            exact hx
          · have hvi : (RT.leastM am).map nV = ((RT.leastM am).map Int.ofNat).map V.int := by rw [List.map_map]; rfl
            have s4 := s2.trans s3
            have e3 : (((RT.leastM am).map Int.ofNat).any fun x => decide ((18446744073709551615 : Int) < x)) = (RT.leastM am).any fun n => decide (18446744073709551615 < n) := by
              rw [List.any_map]
              congr 1
              funext n
              exact decide_eq_decide.mpr (by show (18446744073709551615 : Int) < (n : Int) ↔ _; omega)
            refine ⟨_, rfl, 18446744073709551615, v, (RT.leastM am).map Int.ofNat, rfl, by rw [← hvi]; exact SqL.of hv, fun hf => ?_, fun ht' => ?_⟩
            · rw [e3] at hf
              rw [if_neg (by rw [hf]; decide)] at k1
              have ll : (RT.leastM am).length = am.length := by unfold RT.leastM; rw [List.length_map]
              refine ⟨_, rfl, v, _, rfl, hv, by rw [List.length_map, ll, sizeLine_eq]; omega, fun H4 z s5 nz hz => ?_⟩
              refine k1 H4 z (((RT.leastM am).length : Int) :: (RT.leastM am).map Int.ofNat) (s4.trans s5) (s4.free nz) ?_ rfl
              rw [hz, hvi, List.length_map, List.length_map]
              rfl
            · rw [e3] at ht'
              rw [if_pos ht'] at k2
              exact k2 _ _ _ (.inr (.inr (.inr ⟨rfl, rfl⟩)))
def preR (K : PySem.W.Frag) (f : List Int) (vs : List V) (H : Hp) : Prop := ∃ a, vs = [.ref a] ∧ SqL K H a (f.map V.int) ∧ (∀ x ∈ f, 0 ≤ x ∧ x < 2 ^ 64) ∧ f.length ≤ 200
theorem preR_same {x : List Int} {vs : List V} {H H' : Hp} (s : L2.Same H H') (h : preR K x vs H) : preR K x vs H' := by
  obtain ⟨a, e, h1, h2⟩ := h
  exact ⟨a, e, s.seq h1, h2⟩
theorem dsRatio : DScope st_ratio ["fractions"] ["fractions"] [0] := ⟨⟨rfl, rfl, rfl, by decide +kernel, rfl, by decide +kernel, by decide +kernel⟩, ⟨rfl, rfl, rfl, by decide +kernel, by decide +kernel⟩, ⟨_, _, _, rfl⟩, fun _ => rfl, by decide +kernel,
  fun j y h => by cases j with | zero => exact ⟨0, rfl, h⟩ | succ n => simp at h, rfl, by decide +kernel, rfl, fun _ _ _ _ _ => rfl⟩
theorem okLam {f fB : Addr} {fd fdB : FuncData} {qual : Str} {cl : List (Str × Addr)} {cd : Value} {vs : List V} (L : Lam base f fd qual (lamArgs st_ratio) (lamBody st_ratio) (lamScope st_ratio) cl cd ["fractions"] vs)
    (GB : FnOk P w K mg base (CXF P w) 4 fB fdB ["fractions"] (spTell K CF CW CN CT)) (mB : mg "tell_ratio" = some (.ref fB)) (kB : PySem.W.keepIn K (.ref fB) = true) (bB : Binds K fdB ["fractions"] []) :
    FnOk P w K mg base (CXF P w) 5 f fd [] (spL CF CW CN CT (preR K) PyYqfkea.ratio vs) := by
  refine okL L dsRatio.ls (fun vs H Q E h => by rw [h.1]; rfl) fun A outer s H Q E hr h => ?_
  obtain ⟨_, fs, ⟨a, rfl, hS, hb, hl⟩, k1, k2⟩ := h
  refine ⟨_, pe_call GB hr rfl mB kB bB .nil passes_lam (pa_cons (pv 0) pa_nil), ?_⟩
  rw [RT.ratio_eq fun x hx => (hb x hx).1] at k1 k2
  have e : fs.map V.int = (fs.map Int.toNat).map nV := by
    rw [List.map_map]
    refine List.map_congr_left fun x hx => ?_
    show V.int x = V.int ((x.toNat : Nat) : Int)
    rw [Int.toNat_of_nonneg (hb x hx).1]
  refine ⟨_, rfl, a, fs.map Int.toNat, rfl, by rw [← e]; exact hS, fun n hn => ?_, by rw [List.length_map]; omega, k1, k2⟩
  obtain ⟨x, hx, rfl⟩ := List.mem_map.mp hn
  have := hb x hx
  omega
theorem sq_tbl {K : PySem.W.Frag} {H : Hp} {PT a : Addr} {t1 t2 : Array Value} {xs : List V} (hP : H PT = none) (h : SqL K H a xs) : SqL K (upd (upd H PT (.tbl t1)) PT (.tbl t2)) a xs := by
  have ne : ∀ o, H a = some o → a ≠ PT := fun o e z => by rw [z, hP] at e; cases e
  rcases h with (h | ⟨o, h⟩) | h
  · exact .inl (.inl (by rw [upd_ne (ne _ h), upd_ne (ne _ h)]; exact h))
  · exact .inl (.inr ⟨o, by rw [upd_ne (ne _ h), upd_ne (ne _ h)]; exact h⟩)
  · exact .inr h
theorem b64 {x : Int} (h : 0 ≤ x ∧ x ≤ 18446744073709551615) : 0 ≤ x ∧ x < 2 ^ 64 := by omega
theorem b64n {x : Int} (h : 0 ≤ x ∧ x < 2 ^ 64) : x.toNat < 2 ^ 64 := by omega
theorem inLen_le {α : Type} {n : Nat} {l : List α} (h : PySem.W.Codec.inLen 0 n l = true) : l.length ≤ n := by
  have h2 : (decide (0 ≤ l.length) && decide (l.length ≤ n)) = true := h
  rw [Bool.and_eq_true, decide_eq_true_iff, decide_eq_true_iff] at h2
  exact h2.2
theorem ratioM_len {ns : List Nat} (h : ns.length ≤ 200) (hb : ∀ n ∈ ns, n < 2 ^ 64) : (RT.ratioM ns).length ≤ sizeLine := by
  rw [ratioM_eq]
  cases e : pr ns with
  | none => show 1 ≤ sizeLine; decide
  | some am =>
    obtain ⟨_, h2⟩ := pr_bound ns am e hb
    dsimp only
    split
    · show 1 ≤ sizeLine; decide
    · split
      · show 1 ≤ sizeLine; decide
      · simp only [List.length_cons, List.length_map]
        unfold RT.leastM
        rw [List.length_map, sizeLine_eq]
        omega
end
end BK
end

section
set_option Elab.async false
set_option linter.all false
set_option maxRecDepth 100000
namespace BK
open PySem PySem.Spec PyProof.Rows L2 EX RD LM
open PySem.W (Codec)
theorem sw_all (env : Env) (p1 p2 p3 p4 : Pos) (f : Str) : swapsWith (.Name f p3) (some (.Attribute (.Name "self" p1) f p2)) p4.line env = pure false := by rfl
theorem noX (f : Str) (h : f = "rule" ∨ f = "place" ∨ f = "which") : typeLookup (.type "Exception") f = pure none := by
  rcases h with rfl | rfl | rfl
  · rw [typeLookup_type, builtinLookup_eq_fast]; kernel_rfl
  · rw [typeLookup_type, builtinLookup_eq_fast]; kernel_rfl
  · rw [typeLookup_type, builtinLookup_eq_fast]; kernel_rfl
theorem scFI : FnScope ["self", "rule", "place", "which"] ["self", "rule", "place", "which"] (defScope st_Fault_init) := ⟨rfl, rfl, rfl, by decide +kernel, rfl, by decide +kernel, by decide +kernel⟩
theorem bodyFI : InitBody "rule" "place" "which" (defBody st_Fault_init) := ⟨_, _, _, _, _, _, _, _, _, _, _, _, rfl⟩
theorem all_mk {P : Program} {w : World} {K : PySem.W.Frag} {h : Heap} {mg : Str → Option Value} {fa c0 PT C_Fault C_WrongNumbers C_NotThere C_TooGreat f_Fault_init aD_Fault_init f_common_divisor f_lowest f_paired f_refuse_above f_least_ratio f_ratio f_tell_ratio f_answer f_row : Addr} (X : K.In h) (G : h.Ns mainGlobals mg) (hfa : mg "ratio" = some (.ref fa))
    {nm_Fault q_Fault : Str} {N_Fault : Addr} {bs_Fault : List Value} {sn_Fault : List Str} {sub_Fault : List Value} {ab_Fault : Bool} {col_Fault : Option Bool} {dd_Fault : Option Addr} {k0_Fault k1_Fault k2_Fault k3_Fault k5_Fault : Option Value}
    {nm_WrongNumbers q_WrongNumbers : Str} {N_WrongNumbers : Addr} {bs_WrongNumbers : List Value} {sn_WrongNumbers : List Str} {sub_WrongNumbers : List Value} {ab_WrongNumbers : Bool} {col_WrongNumbers : Option Bool} {dd_WrongNumbers : Option Addr} {k0_WrongNumbers k1_WrongNumbers k2_WrongNumbers k3_WrongNumbers k5_WrongNumbers : Option Value}
    {nm_NotThere q_NotThere : Str} {N_NotThere : Addr} {bs_NotThere : List Value} {sn_NotThere : List Str} {sub_NotThere : List Value} {ab_NotThere : Bool} {col_NotThere : Option Bool} {dd_NotThere : Option Addr} {k0_NotThere k1_NotThere k2_NotThere k3_NotThere k5_NotThere : Option Value}
    {nm_TooGreat q_TooGreat : Str} {N_TooGreat : Addr} {bs_TooGreat : List Value} {sn_TooGreat : List Str} {sub_TooGreat : List Value} {ab_TooGreat : Bool} {col_TooGreat : Option Bool} {dd_TooGreat : Option Addr} {k0_TooGreat k1_TooGreat k2_TooGreat k3_TooGreat k5_TooGreat : Option Value}
    {od_Fault_init an_Fault_init : Option Addr} {sl_Fault_init : Array (Option Value)} {oc_Fault_init kV_Fault_init dc_Fault_init pm_Fault_init cd_Fault_init ct_Fault_init : Value}
    {oD_Fault_init : Option Addr} {nD_Fault_init : Nat} {sD_Fault_init : Array (Option Value)} {tD_Fault_init : Tok}
    {od_common_divisor an_common_divisor : Option Addr} {sl_common_divisor : Array (Option Value)} {oc_common_divisor kV_common_divisor dc_common_divisor pm_common_divisor cd_common_divisor ct_common_divisor : Value}
    {od_lowest an_lowest : Option Addr} {sl_lowest : Array (Option Value)} {oc_lowest kV_lowest dc_lowest pm_lowest cd_lowest ct_lowest : Value}
    {od_paired an_paired : Option Addr} {sl_paired : Array (Option Value)} {oc_paired kV_paired dc_paired pm_paired cd_paired ct_paired : Value}
    {od_refuse_above an_refuse_above : Option Addr} {sl_refuse_above : Array (Option Value)} {oc_refuse_above kV_refuse_above dc_refuse_above pm_refuse_above cd_refuse_above ct_refuse_above : Value}
    {od_least_ratio an_least_ratio : Option Addr} {sl_least_ratio : Array (Option Value)} {oc_least_ratio kV_least_ratio dc_least_ratio pm_least_ratio cd_least_ratio ct_least_ratio : Value}
    {od_ratio an_ratio : Option Addr} {sl_ratio : Array (Option Value)} {oc_ratio kV_ratio dc_ratio pm_ratio cd_ratio ct_ratio : Value}
    {od_tell_ratio an_tell_ratio : Option Addr} {sl_tell_ratio : Array (Option Value)} {oc_tell_ratio kV_tell_ratio dc_tell_ratio pm_tell_ratio cd_tell_ratio ct_tell_ratio : Value}
    {od_answer an_answer : Option Addr} {sl_answer : Array (Option Value)} {oc_answer kV_answer dc_answer pm_answer cd_answer ct_answer : Value}
    {od_row an_row : Option Addr} {sl_row : Array (Option Value)} {oc_row kV_row dc_row pm_row cd_row ct_row : Value}
    {tv_MOST_TOLD : Tok}
    {tv_ANSWERED : Tok}
    {tv_WRONG_NUMBERS : Tok}
    {tv_NOT_THERE : Tok}
    {tv_FAULTY_FORM : Tok}
    {tv_TOO_GREAT : Tok}
    (ag_Fault : PySem.W.nsIn K mainGlobals "Fault" = some (some (.ref C_Fault)))
    (xl_Fault : K.lookup C_Fault = some (excClassObj nm_Fault q_Fault C_Fault N_Fault bs_Fault bmX true sn_Fault sub_Fault ab_Fault col_Fault dd_Fault k0_Fault k1_Fault k2_Fault k3_Fault k5_Fault "Exception.__new__"))
    (xn_Fault : PySem.W.nsOkIn K N_Fault = true)
    (xk_Fault : PySem.W.keepIn K (.ref C_Fault) = true)
    (xi_Fault : PySem.W.nsIn K N_Fault "__init__" = some (some (.ref f_Fault_init)))
    (xs_Fault : PySem.W.nsIn K N_Fault "__setattr__" = some none)
    (xa_Fault : PySem.W.nsIn K N_Fault "__getattribute__" = some none)
    (xb_Fault : PySem.W.nsIn K N_Fault "__getattr__" = some none)
    (xf_Fault_rule : PySem.W.nsIn K N_Fault "rule" = some none)
    (na_Fault_rule : PySem.W.findIn K (.ref C_Fault) "rule" = some none)
    (xf_Fault_place : PySem.W.nsIn K N_Fault "place" = some none)
    (na_Fault_place : PySem.W.findIn K (.ref C_Fault) "place" = some none)
    (xf_Fault_which : PySem.W.nsIn K N_Fault "which" = some none)
    (na_Fault_which : PySem.W.findIn K (.ref C_Fault) "which" = some none)
    (ga_Fault : PySem.W.findIn K (.ref C_Fault) "__getattribute__" = some (some (.builtin "BaseException.__getattribute__")))
    (gh_Fault : PySem.W.findIn K (.ref C_Fault) "__getattr__" = some none)
    (gd_Fault : PySem.W.hasDictIn K C_Fault = true)
    (gs_Fault : PySem.W.mroIn K C_Fault (.type "BaseException") = some true)
    (ag_WrongNumbers : PySem.W.nsIn K mainGlobals "WrongNumbers" = some (some (.ref C_WrongNumbers)))
    (xl_WrongNumbers : K.lookup C_WrongNumbers = some (excClassObj nm_WrongNumbers q_WrongNumbers C_WrongNumbers N_WrongNumbers bs_WrongNumbers bmX true sn_WrongNumbers sub_WrongNumbers ab_WrongNumbers col_WrongNumbers dd_WrongNumbers k0_WrongNumbers k1_WrongNumbers k2_WrongNumbers k3_WrongNumbers k5_WrongNumbers "Exception.__new__"))
    (xn_WrongNumbers : PySem.W.nsOkIn K N_WrongNumbers = true)
    (xk_WrongNumbers : PySem.W.keepIn K (.ref C_WrongNumbers) = true)
    (xi_WrongNumbers : PySem.W.nsIn K N_WrongNumbers "__init__" = some none)
    (ag_NotThere : PySem.W.nsIn K mainGlobals "NotThere" = some (some (.ref C_NotThere)))
    (xl_NotThere : K.lookup C_NotThere = some (excClassObj nm_NotThere q_NotThere C_NotThere N_NotThere bs_NotThere bmX true sn_NotThere sub_NotThere ab_NotThere col_NotThere dd_NotThere k0_NotThere k1_NotThere k2_NotThere k3_NotThere k5_NotThere "Exception.__new__"))
    (xn_NotThere : PySem.W.nsOkIn K N_NotThere = true)
    (xk_NotThere : PySem.W.keepIn K (.ref C_NotThere) = true)
    (xi_NotThere : PySem.W.nsIn K N_NotThere "__init__" = some none)
    (ag_TooGreat : PySem.W.nsIn K mainGlobals "TooGreat" = some (some (.ref C_TooGreat)))
    (xl_TooGreat : K.lookup C_TooGreat = some (excClassObj nm_TooGreat q_TooGreat C_TooGreat N_TooGreat bs_TooGreat bmX true sn_TooGreat sub_TooGreat ab_TooGreat col_TooGreat dd_TooGreat k0_TooGreat k1_TooGreat k2_TooGreat k3_TooGreat k5_TooGreat "Exception.__new__"))
    (xn_TooGreat : PySem.W.nsOkIn K N_TooGreat = true)
    (xk_TooGreat : PySem.W.keepIn K (.ref C_TooGreat) = true)
    (xi_TooGreat : PySem.W.nsIn K N_TooGreat "__init__" = some none)
    (ne_WrongNumbers_Fault : C_WrongNumbers ≠ C_Fault)
    (ne_NotThere_Fault : C_NotThere ≠ C_Fault)
    (ne_NotThere_WrongNumbers : C_NotThere ≠ C_WrongNumbers)
    (ne_TooGreat_Fault : C_TooGreat ≠ C_Fault)
    (ne_TooGreat_WrongNumbers : C_TooGreat ≠ C_WrongNumbers)
    (ne_TooGreat_NotThere : C_TooGreat ≠ C_NotThere)
    (af_Fault_init : PySem.W.findIn K (.ref C_Fault) "__init__" = some (some (.ref f_Fault_init)))
    (if_Fault_init : PySem.W.isFn K (.ref f_Fault_init) = true)
    (lf_Fault_init : K.lookup f_Fault_init = some ⟨oc_Fault_init, od_Fault_init, .func (PySem.W.fnOf "__init__" "Fault.__init__" (defArgs st_Fault_init) (defBody st_Fault_init) (defScope st_Fault_init) (.ref aD_Fault_init) kV_Fault_init dc_Fault_init pm_Fault_init an_Fault_init cd_Fault_init ct_Fault_init), sl_Fault_init⟩)
    (lD_Fault_init : K.lookup aD_Fault_init = some ⟨.type "tuple", oD_Fault_init, .seq #[.int 0 tD_Fault_init] nD_Fault_init, sD_Fault_init⟩)
    (cf_Fault_init : PySem.W.codeIn K cd_Fault_init "Fault.__init__" = true)
    (kf_Fault_init : PySem.W.keepIn K (.ref f_Fault_init) = true)
    (af_common_divisor : PySem.W.nsIn K mainGlobals "common_divisor" = some (some (.ref f_common_divisor)))
    (lf_common_divisor : K.lookup f_common_divisor = some ⟨oc_common_divisor, od_common_divisor, .func (PySem.W.fnOf "common_divisor" "common_divisor" (defArgs st_common_divisor) (defBody st_common_divisor) (defScope st_common_divisor) .none kV_common_divisor dc_common_divisor pm_common_divisor an_common_divisor cd_common_divisor ct_common_divisor), sl_common_divisor⟩)
    (cf_common_divisor : PySem.W.codeIn K cd_common_divisor "common_divisor" = true)
    (kf_common_divisor : PySem.W.keepIn K (.ref f_common_divisor) = true)
    (af_lowest : PySem.W.nsIn K mainGlobals "lowest" = some (some (.ref f_lowest)))
    (lf_lowest : K.lookup f_lowest = some ⟨oc_lowest, od_lowest, .func (PySem.W.fnOf "lowest" "lowest" (defArgs st_lowest) (defBody st_lowest) (defScope st_lowest) .none kV_lowest dc_lowest pm_lowest an_lowest cd_lowest ct_lowest), sl_lowest⟩)
    (cf_lowest : PySem.W.codeIn K cd_lowest "lowest" = true)
    (kf_lowest : PySem.W.keepIn K (.ref f_lowest) = true)
    (af_paired : PySem.W.nsIn K mainGlobals "paired" = some (some (.ref f_paired)))
    (lf_paired : K.lookup f_paired = some ⟨oc_paired, od_paired, .func (PySem.W.fnOf "paired" "paired" (defArgs st_paired) (defBody st_paired) (defScope st_paired) .none kV_paired dc_paired pm_paired an_paired cd_paired ct_paired), sl_paired⟩)
    (cf_paired : PySem.W.codeIn K cd_paired "paired" = true)
    (kf_paired : PySem.W.keepIn K (.ref f_paired) = true)
    (af_refuse_above : PySem.W.nsIn K mainGlobals "refuse_above" = some (some (.ref f_refuse_above)))
    (lf_refuse_above : K.lookup f_refuse_above = some ⟨oc_refuse_above, od_refuse_above, .func (PySem.W.fnOf "refuse_above" "refuse_above" (defArgs st_refuse_above) (defBody st_refuse_above) (defScope st_refuse_above) .none kV_refuse_above dc_refuse_above pm_refuse_above an_refuse_above cd_refuse_above ct_refuse_above), sl_refuse_above⟩)
    (cf_refuse_above : PySem.W.codeIn K cd_refuse_above "refuse_above" = true)
    (kf_refuse_above : PySem.W.keepIn K (.ref f_refuse_above) = true)
    (af_least_ratio : PySem.W.nsIn K mainGlobals "least_ratio" = some (some (.ref f_least_ratio)))
    (lf_least_ratio : K.lookup f_least_ratio = some ⟨oc_least_ratio, od_least_ratio, .func (PySem.W.fnOf "least_ratio" "least_ratio" (defArgs st_least_ratio) (defBody st_least_ratio) (defScope st_least_ratio) .none kV_least_ratio dc_least_ratio pm_least_ratio an_least_ratio cd_least_ratio ct_least_ratio), sl_least_ratio⟩)
    (cf_least_ratio : PySem.W.codeIn K cd_least_ratio "least_ratio" = true)
    (kf_least_ratio : PySem.W.keepIn K (.ref f_least_ratio) = true)
    (af_ratio : PySem.W.nsIn K mainGlobals "ratio" = some (some (.ref f_ratio)))
    (lf_ratio : K.lookup f_ratio = some ⟨oc_ratio, od_ratio, .func (PySem.W.fnOf "ratio" "ratio" (defArgs st_ratio) (defBody st_ratio) (defScope st_ratio) .none kV_ratio dc_ratio pm_ratio an_ratio cd_ratio ct_ratio), sl_ratio⟩)
    (cf_ratio : PySem.W.codeIn K cd_ratio "ratio" = true)
    (kf_ratio : PySem.W.keepIn K (.ref f_ratio) = true)
    (af_tell_ratio : PySem.W.nsIn K mainGlobals "tell_ratio" = some (some (.ref f_tell_ratio)))
    (lf_tell_ratio : K.lookup f_tell_ratio = some ⟨oc_tell_ratio, od_tell_ratio, .func (PySem.W.fnOf "tell_ratio" "tell_ratio" (defArgs st_tell_ratio) (defBody st_tell_ratio) (defScope st_tell_ratio) .none kV_tell_ratio dc_tell_ratio pm_tell_ratio an_tell_ratio cd_tell_ratio ct_tell_ratio), sl_tell_ratio⟩)
    (cf_tell_ratio : PySem.W.codeIn K cd_tell_ratio "tell_ratio" = true)
    (kf_tell_ratio : PySem.W.keepIn K (.ref f_tell_ratio) = true)
    (af_answer : PySem.W.nsIn K mainGlobals "answer" = some (some (.ref f_answer)))
    (lf_answer : K.lookup f_answer = some ⟨oc_answer, od_answer, .func (PySem.W.fnOf "answer" "answer" (defArgs st_answer) (defBody st_answer) (defScope st_answer) .none kV_answer dc_answer pm_answer an_answer cd_answer ct_answer), sl_answer⟩)
    (cf_answer : PySem.W.codeIn K cd_answer "answer" = true)
    (kf_answer : PySem.W.keepIn K (.ref f_answer) = true)
    (af_row : PySem.W.nsIn K mainGlobals "row" = some (some (.ref f_row)))
    (lf_row : K.lookup f_row = some ⟨oc_row, od_row, .func (PySem.W.fnOf "row" "row" (defArgs st_row) (defBody st_row) (defScope st_row) .none kV_row dc_row pm_row an_row cd_row ct_row), sl_row⟩)
    (cf_row : PySem.W.codeIn K cd_row "row" = true)
    (kf_row : PySem.W.keepIn K (.ref f_row) = true)
    (v0_MOST_TOLD : PySem.W.nsIn K mainGlobals "MOST_TOLD" = some (some (.int 18446744073709551615 tv_MOST_TOLD)))
    (v0_ANSWERED : PySem.W.nsIn K mainGlobals "ANSWERED" = some (some (.int 0 tv_ANSWERED)))
    (v0_WRONG_NUMBERS : PySem.W.nsIn K mainGlobals "WRONG_NUMBERS" = some (some (.int (-1) tv_WRONG_NUMBERS)))
    (v0_NOT_THERE : PySem.W.nsIn K mainGlobals "NOT_THERE" = some (some (.int (-2) tv_NOT_THERE)))
    (v0_FAULTY_FORM : PySem.W.nsIn K mainGlobals "FAULTY_FORM" = some (some (.int (-5) tv_FAULTY_FORM)))
    (v0_TOO_GREAT : PySem.W.nsIn K mainGlobals "TOO_GREAT" = some (some (.int (-6) tv_TOO_GREAT)))
    (nn_len : PySem.W.nsIn K mainGlobals "len" = some none)
    (nn_range : PySem.W.nsIn K mainGlobals "range" = some none)
    (ht : PySem.W.tabIn K "ratio" = some (c0, PT))
    : ∃ (fd : FuncData) (c PT : Addr), PySem.W.tabIn K "ratio" = some (c, PT) ∧ (∀ (s : Shared) (us : List Value), us.length = (["fractions"] : List Str).length → BindsTo s fd ⟨us, []⟩ ((["fractions"] : List Str).zip us)) ∧
      ∀ base : Heap, K.In base → base.Ns mainGlobals mg → PySem.W.CodeHd base c PT → base.BuiltinsAt mg PT → FnOk P w K mg base CX0 7 fa fd ["fractions"] (spD PT [0] (preR K) PyYqfkea.ratio) := by
  have e := hfa.symm.trans (PySem.W.mg_of X G af_ratio)
  cases e
  have M_Fault_init : Meth K C_Fault "__init__" f_Fault_init := ⟨af_Fault_init, if_Fault_init, kf_Fault_init⟩
  have F_common_divisor := fun_mk (st := st_common_divisor) lf_common_divisor cf_common_divisor kf_common_divisor
  have b_common_divisor := F_common_divisor.binds (ps := ["a", "b"]) fun _ _ _ _ _ _ us hl => match us, hl with | [_, _], _ => rfl
  have m_common_divisor := PySem.W.mg_of X G af_common_divisor
  have F_lowest := fun_mk (st := st_lowest) lf_lowest cf_lowest kf_lowest
  have b_lowest := F_lowest.binds (ps := ["numerator", "denominator"]) fun _ _ _ _ _ _ us hl => match us, hl with | [_, _], _ => rfl
  have m_lowest := PySem.W.mg_of X G af_lowest
  have F_paired := fun_mk (st := st_paired) lf_paired cf_paired kf_paired
  have b_paired := F_paired.binds (ps := ["numbers"]) fun _ _ _ _ _ _ us hl => match us, hl with | [_], _ => rfl
  have m_paired := PySem.W.mg_of X G af_paired
  have F_refuse_above := fun_mk (st := st_refuse_above) lf_refuse_above cf_refuse_above kf_refuse_above
  have b_refuse_above := F_refuse_above.binds (ps := ["most", "numbers"]) fun _ _ _ _ _ _ us hl => match us, hl with | [_, _], _ => rfl
  have m_refuse_above := PySem.W.mg_of X G af_refuse_above
  have F_least_ratio := fun_mk (st := st_least_ratio) lf_least_ratio cf_least_ratio kf_least_ratio
  have b_least_ratio := F_least_ratio.binds (ps := ["fractions"]) fun _ _ _ _ _ _ us hl => match us, hl with | [_], _ => rfl
  have m_least_ratio := PySem.W.mg_of X G af_least_ratio
  have F_ratio := fun_mk (st := st_ratio) lf_ratio cf_ratio kf_ratio
  have b_ratio := F_ratio.binds (ps := ["fractions"]) fun _ _ _ _ _ _ us hl => match us, hl with | [_], _ => rfl
  have m_ratio := PySem.W.mg_of X G af_ratio
  have F_tell_ratio := fun_mk (st := st_tell_ratio) lf_tell_ratio cf_tell_ratio kf_tell_ratio
  have b_tell_ratio := F_tell_ratio.binds (ps := ["fractions"]) fun _ _ _ _ _ _ us hl => match us, hl with | [_], _ => rfl
  have m_tell_ratio := PySem.W.mg_of X G af_tell_ratio
  have F_answer := fun_mk (st := st_answer) lf_answer cf_answer kf_answer
  have b_answer := F_answer.binds (ps := ["tell"]) fun _ _ _ _ _ _ us hl => match us, hl with | [_], _ => rfl
  have m_answer := PySem.W.mg_of X G af_answer
  have F_row := fun_mk (st := st_row) lf_row cf_row kf_row
  have b_row := F_row.binds (ps := ["numbers"]) fun _ _ _ _ _ _ us hl => match us, hl with | [_], _ => rfl
  have m_row := PySem.W.mg_of X G af_row
  have v_MOST_TOLD : ∃ u, mg "MOST_TOLD" = some u ∧ RelV (.int 18446744073709551615) u := ⟨_, PySem.W.mg_of X G v0_MOST_TOLD, _, rfl⟩
  have v_ANSWERED : ∃ u, mg "ANSWERED" = some u ∧ RelV (.int 0) u := ⟨_, PySem.W.mg_of X G v0_ANSWERED, _, rfl⟩
  have v_WRONG_NUMBERS : ∃ u, mg "WRONG_NUMBERS" = some u ∧ RelV (.int (-1)) u := ⟨_, PySem.W.mg_of X G v0_WRONG_NUMBERS, _, rfl⟩
  have v_NOT_THERE : ∃ u, mg "NOT_THERE" = some u ∧ RelV (.int (-2)) u := ⟨_, PySem.W.mg_of X G v0_NOT_THERE, _, rfl⟩
  have v_FAULTY_FORM : ∃ u, mg "FAULTY_FORM" = some u ∧ RelV (.int (-5)) u := ⟨_, PySem.W.mg_of X G v0_FAULTY_FORM, _, rfl⟩
  have v_TOO_GREAT : ∃ u, mg "TOO_GREAT" = some u ∧ RelV (.int (-6)) u := ⟨_, PySem.W.mg_of X G v0_TOO_GREAT, _, rfl⟩
  have n_len := PySem.W.ns_none_of X G nn_len
  have n_range := PySem.W.ns_none_of X G nn_range
  have g_Fault := PySem.W.mg_of X G ag_Fault
  have xc : XC K C_Fault f_Fault_init ["rule", "place", "which"] := ⟨⟨_, _, N_Fault, _, _, _, _, _, _, _, _, _, _, _, xl_Fault, xn_Fault, xi_Fault, xs_Fault, xa_Fault, xb_Fault, fun f hf => by
    simp only [List.mem_cons, List.not_mem_nil, or_false] at hf
    rcases hf with rfl | rfl | rfl
    · exact xf_Fault_rule
    · exact xf_Fault_place
    · exact xf_Fault_which⟩, fun f hf => noX f (by simpa using hf), if_Fault_init, xk_Fault⟩
  have xin : XInit K C_Fault f_Fault_init "rule" "place" "which" 0 := ⟨xc, ⟨_, st_Fault_init, _, _, tD_Fault_init, ⟨_, _, _, _, _, _, _, _, _, rfl, lf_Fault_init, cf_Fault_init⟩, scFI,
    fun s us X hl => match us, (show us.length = 4 by simpa using hl) with | [_, _, _, _], _ => PySem.W.binds_K X rfl lD_Fault_init rfl rfl rfl,
    fun s us X hl => match us, (show us.length = 3 by simpa using hl) with | [_, _, _], _ => PySem.W.binds_K X rfl lD_Fault_init rfl rfl rfl, bodyFI, fun x hx => by
    simp only [List.mem_cons, List.not_mem_nil, or_false] at hx
    rcases hx with rfl | rfl | rfl | rfl <;> rfl⟩, sw_all, by decide, by decide, by decide⟩
  have xg : XG K C_Fault := ⟨ga_Fault, gh_Fault, gd_Fault, gs_Fault⟩
  have g_WrongNumbers := PySem.W.mg_of X G ag_WrongNumbers
  have xp_WrongNumbers : XP K C_WrongNumbers := ⟨⟨_, _, N_WrongNumbers, _, _, _, _, _, _, _, _, _, _, _, xl_WrongNumbers, xn_WrongNumbers, xi_WrongNumbers⟩, xk_WrongNumbers⟩
  have g_NotThere := PySem.W.mg_of X G ag_NotThere
  have xp_NotThere : XP K C_NotThere := ⟨⟨_, _, N_NotThere, _, _, _, _, _, _, _, _, _, _, _, xl_NotThere, xn_NotThere, xi_NotThere⟩, xk_NotThere⟩
  have g_TooGreat := PySem.W.mg_of X G ag_TooGreat
  have xp_TooGreat : XP K C_TooGreat := ⟨⟨_, _, N_TooGreat, _, _, _, _, _, _, _, _, _, _, _, xl_TooGreat, xn_TooGreat, xi_TooGreat⟩, xk_TooGreat⟩
  have TA : TA4 K mg C_Fault C_WrongNumbers C_NotThere C_TooGreat f_Fault_init := ⟨xc, xp_WrongNumbers, xp_NotThere, xp_TooGreat, g_Fault, g_WrongNumbers, g_NotThere, g_TooGreat, ne_WrongNumbers_Fault, ne_NotThere_Fault, ne_TooGreat_Fault, ne_NotThere_WrongNumbers, ne_TooGreat_WrongNumbers, ne_TooGreat_NotThere, xg, na_Fault_rule, na_Fault_place, na_Fault_which, v_ANSWERED, v_WRONG_NUMBERS, v_NOT_THERE, v_FAULTY_FORM, v_TOO_GREAT⟩
  refine ⟨PySem.W.fnOf "ratio" "ratio" (defArgs st_ratio) (defBody st_ratio) (defScope st_ratio) .none kV_ratio dc_ratio pm_ratio an_ratio cd_ratio ct_ratio, c0, PT, ht, fun s us hu => match us, hu with | [_], _ => .of_eq rfl, fun base hKb hGb hC hB => ?_⟩
  refine okD F_ratio (code_tab ht af_ratio lf_ratio) dsRatio hC hB m_answer kf_answer b_answer (fun base f fd cl cd vs hK hG L => ?_) rfl
  have GG := okGcd (P := P) (w := w) (mg := mg) (base := base) F_common_divisor
  have GLo := okLow F_lowest GG m_common_divisor kf_common_divisor b_common_divisor
  exact okAns F_answer TA (okLam L (okTell F_tell_ratio TA v_MOST_TOLD (okPair F_paired xp_WrongNumbers g_WrongNumbers n_len n_range GLo m_lowest kf_lowest b_lowest) m_paired kf_paired b_paired
    (okLeast F_least_ratio GG m_common_divisor kf_common_divisor b_common_divisor) m_least_ratio kf_least_ratio b_least_ratio
    (okAbove F_refuse_above xp_TooGreat g_TooGreat) m_refuse_above kf_refuse_above b_refuse_above (okRow F_row n_len) m_row kf_row b_row) m_tell_ratio kf_tell_ratio b_tell_ratio) (fnAt_lam L) (bind_lam dsRatio L) (fun _ _ _ => preR_same)
end BK
open PySem PySem.W PyProof.Rows
set_option maxRecDepth 100000 in
set_option maxHeartbeats 0 in
theorem PySem.Challenge.cw_wholeamounts_s05_ratio_holds : PySem.Challenge.rw_wholeamounts_s05_ratio.Holds := by
  w_on; k_headS; (case hw => exact ⟨[.list []], by decide +kernel, by decide +kernel⟩)
  k_fillS
  refine LM.walk_specT (r := PySem.Challenge.rw_wholeamounts_s05_ratio) (k := 7) (CX := L2.CX0) (ps := ["fractions"]) (sp := fun K PT => BK.spD PT [0] (BK.preR K) PyYqfkea.ratio) (by decide +kernel) rfl rfl ⟨rfl, by decide, by decide⟩ ?R (fun w h Y => PySem.W.kIn_of Y) ?T ?F ?S (fun _ _ _ _ z => z)
  case R => first | rfl | kernel_rfl | decide +kernel
  case T => intro w; first | rfl | kernel_rfl | decide +kernel
  case F =>
    intro w mg fa h Y KX G hmg
    refine' BK.all_mk KX G hmg ?ag_Fault ?xl_Fault ?xn_Fault ?xk_Fault ?xi_Fault ?xs_Fault ?xa_Fault ?xb_Fault ?xf_Fault_rule ?na_Fault_rule ?xf_Fault_place ?na_Fault_place ?xf_Fault_which ?na_Fault_which ?ga_Fault ?gh_Fault ?gd_Fault ?gs_Fault ?ag_WrongNumbers ?xl_WrongNumbers ?xn_WrongNumbers ?xk_WrongNumbers ?xi_WrongNumbers ?ag_NotThere ?xl_NotThere ?xn_NotThere ?xk_NotThere ?xi_NotThere ?ag_TooGreat ?xl_TooGreat ?xn_TooGreat ?xk_TooGreat ?xi_TooGreat ?ne_WrongNumbers_Fault ?ne_NotThere_Fault ?ne_NotThere_WrongNumbers ?ne_TooGreat_Fault ?ne_TooGreat_WrongNumbers ?ne_TooGreat_NotThere ?af_Fault_init ?if_Fault_init ?lf_Fault_init ?lD_Fault_init ?cf_Fault_init ?kf_Fault_init ?af_common_divisor ?lf_common_divisor ?cf_common_divisor ?kf_common_divisor ?af_lowest ?lf_lowest ?cf_lowest ?kf_lowest ?af_paired ?lf_paired ?cf_paired ?kf_paired ?af_refuse_above ?lf_refuse_above ?cf_refuse_above ?kf_refuse_above ?af_least_ratio ?lf_least_ratio ?cf_least_ratio ?kf_least_ratio ?af_ratio ?lf_ratio ?cf_ratio ?kf_ratio ?af_tell_ratio ?lf_tell_ratio ?cf_tell_ratio ?kf_tell_ratio ?af_answer ?lf_answer ?cf_answer ?kf_answer ?af_row ?lf_row ?cf_row ?kf_row ?v0_MOST_TOLD ?v0_ANSWERED ?v0_WRONG_NUMBERS ?v0_NOT_THERE ?v0_FAULTY_FORM ?v0_TOO_GREAT ?nn_len ?nn_range ?ht
    (case ag_Fault => first | k_is | exact rfl | kernel_rfl | decide +kernel)
    (case xl_Fault => first | k_is | exact rfl | kernel_rfl | decide +kernel)
    (case xn_Fault => first | k_is | exact rfl | kernel_rfl | decide +kernel)
    (case xk_Fault => first | k_is | exact rfl | kernel_rfl | decide +kernel)
    (case xi_Fault => first | k_is | exact rfl | kernel_rfl | decide +kernel)
    (case xs_Fault => first | k_is | exact rfl | kernel_rfl | decide +kernel)
    (case xa_Fault => first | k_is | exact rfl | kernel_rfl | decide +kernel)
    (case xb_Fault => first | k_is | exact rfl | kernel_rfl | decide +kernel)
    (case xf_Fault_rule => first | k_is | exact rfl | kernel_rfl | decide +kernel)
    (case na_Fault_rule => first | k_is | exact rfl | kernel_rfl | decide +kernel)
    (case xf_Fault_place => first | k_is | exact rfl | kernel_rfl | decide +kernel)
    (case na_Fault_place => first | k_is | exact rfl | kernel_rfl | decide +kernel)
    (case xf_Fault_which => first | k_is | exact rfl | kernel_rfl | decide +kernel)
    (case na_Fault_which => first | k_is | exact rfl | kernel_rfl | decide +kernel)
    (case ga_Fault => first | k_is | exact rfl | kernel_rfl | decide +kernel)
    (case gh_Fault => first | k_is | exact rfl | kernel_rfl | decide +kernel)
    (case gd_Fault => first | k_is | exact rfl | kernel_rfl | decide +kernel)
    (case gs_Fault => first | k_is | exact rfl | kernel_rfl | decide +kernel)
    (case ag_WrongNumbers => first | k_is | exact rfl | kernel_rfl | decide +kernel)
    (case xl_WrongNumbers => first | k_is | exact rfl | kernel_rfl | decide +kernel)
    (case xn_WrongNumbers => first | k_is | exact rfl | kernel_rfl | decide +kernel)
    (case xk_WrongNumbers => first | k_is | exact rfl | kernel_rfl | decide +kernel)
    (case xi_WrongNumbers => first | k_is | exact rfl | kernel_rfl | decide +kernel)
    (case ag_NotThere => first | k_is | exact rfl | kernel_rfl | decide +kernel)
    (case xl_NotThere => first | k_is | exact rfl | kernel_rfl | decide +kernel)
    (case xn_NotThere => first | k_is | exact rfl | kernel_rfl | decide +kernel)
    (case xk_NotThere => first | k_is | exact rfl | kernel_rfl | decide +kernel)
    (case xi_NotThere => first | k_is | exact rfl | kernel_rfl | decide +kernel)
    (case ag_TooGreat => first | k_is | exact rfl | kernel_rfl | decide +kernel)
    (case xl_TooGreat => first | k_is | exact rfl | kernel_rfl | decide +kernel)
    (case xn_TooGreat => first | k_is | exact rfl | kernel_rfl | decide +kernel)
    (case xk_TooGreat => first | k_is | exact rfl | kernel_rfl | decide +kernel)
    (case xi_TooGreat => first | k_is | exact rfl | kernel_rfl | decide +kernel)
    (case ne_WrongNumbers_Fault => first | k_is | exact rfl | kernel_rfl | decide +kernel)
    (case ne_NotThere_Fault => first | k_is | exact rfl | kernel_rfl | decide +kernel)
    (case ne_NotThere_WrongNumbers => first | k_is | exact rfl | kernel_rfl | decide +kernel)
    (case ne_TooGreat_Fault => first | k_is | exact rfl | kernel_rfl | decide +kernel)
    (case ne_TooGreat_WrongNumbers => first | k_is | exact rfl | kernel_rfl | decide +kernel)
    (case ne_TooGreat_NotThere => first | k_is | exact rfl | kernel_rfl | decide +kernel)
    (case af_Fault_init => first | k_is | exact rfl | kernel_rfl | decide +kernel)
    (case if_Fault_init => first | k_is | exact rfl | kernel_rfl | decide +kernel)
    (case lf_Fault_init => first | k_is | exact rfl | kernel_rfl | decide +kernel)
    (case lD_Fault_init => first | k_is | exact rfl | kernel_rfl | decide +kernel)
    (case cf_Fault_init => first | k_is | exact rfl | kernel_rfl | decide +kernel)
    (case kf_Fault_init => first | k_is | exact rfl | kernel_rfl | decide +kernel)
    (case af_common_divisor => first | k_is | exact rfl | kernel_rfl | decide +kernel)
    (case lf_common_divisor => first | k_is | exact rfl | kernel_rfl | decide +kernel)
    (case cf_common_divisor => first | k_is | exact rfl | kernel_rfl | decide +kernel)
    (case kf_common_divisor => first | k_is | exact rfl | kernel_rfl | decide +kernel)
    (case af_lowest => first | k_is | exact rfl | kernel_rfl | decide +kernel)
    (case lf_lowest => first | k_is | exact rfl | kernel_rfl | decide +kernel)
    (case cf_lowest => first | k_is | exact rfl | kernel_rfl | decide +kernel)
    (case kf_lowest => first | k_is | exact rfl | kernel_rfl | decide +kernel)
    (case af_paired => first | k_is | exact rfl | kernel_rfl | decide +kernel)
    (case lf_paired => first | k_is | exact rfl | kernel_rfl | decide +kernel)
    (case cf_paired => first | k_is | exact rfl | kernel_rfl | decide +kernel)
    (case kf_paired => first | k_is | exact rfl | kernel_rfl | decide +kernel)
    (case af_refuse_above => first | k_is | exact rfl | kernel_rfl | decide +kernel)
    (case lf_refuse_above => first | k_is | exact rfl | kernel_rfl | decide +kernel)
    (case cf_refuse_above => first | k_is | exact rfl | kernel_rfl | decide +kernel)
    (case kf_refuse_above => first | k_is | exact rfl | kernel_rfl | decide +kernel)
    (case af_least_ratio => first | k_is | exact rfl | kernel_rfl | decide +kernel)
    (case lf_least_ratio => first | k_is | exact rfl | kernel_rfl | decide +kernel)
    (case cf_least_ratio => first | k_is | exact rfl | kernel_rfl | decide +kernel)
    (case kf_least_ratio => first | k_is | exact rfl | kernel_rfl | decide +kernel)
    (case af_ratio => first | k_is | exact rfl | kernel_rfl | decide +kernel)
    (case lf_ratio => first | k_is | exact rfl | kernel_rfl | decide +kernel)
    (case cf_ratio => first | k_is | exact rfl | kernel_rfl | decide +kernel)
    (case kf_ratio => first | k_is | exact rfl | kernel_rfl | decide +kernel)
    (case af_tell_ratio => first | k_is | exact rfl | kernel_rfl | decide +kernel)
    (case lf_tell_ratio => first | k_is | exact rfl | kernel_rfl | decide +kernel)
    (case cf_tell_ratio => first | k_is | exact rfl | kernel_rfl | decide +kernel)
    (case kf_tell_ratio => first | k_is | exact rfl | kernel_rfl | decide +kernel)
    (case af_answer => first | k_is | exact rfl | kernel_rfl | decide +kernel)
    (case lf_answer => first | k_is | exact rfl | kernel_rfl | decide +kernel)
    (case cf_answer => first | k_is | exact rfl | kernel_rfl | decide +kernel)
    (case kf_answer => first | k_is | exact rfl | kernel_rfl | decide +kernel)
    (case af_row => first | k_is | exact rfl | kernel_rfl | decide +kernel)
    (case lf_row => first | k_is | exact rfl | kernel_rfl | decide +kernel)
    (case cf_row => first | k_is | exact rfl | kernel_rfl | decide +kernel)
    (case kf_row => first | k_is | exact rfl | kernel_rfl | decide +kernel)
    (case v0_MOST_TOLD => first | k_is | exact rfl | kernel_rfl | decide +kernel)
    (case v0_ANSWERED => first | k_is | exact rfl | kernel_rfl | decide +kernel)
    (case v0_WRONG_NUMBERS => first | k_is | exact rfl | kernel_rfl | decide +kernel)
    (case v0_NOT_THERE => first | k_is | exact rfl | kernel_rfl | decide +kernel)
    (case v0_FAULTY_FORM => first | k_is | exact rfl | kernel_rfl | decide +kernel)
    (case v0_TOO_GREAT => first | k_is | exact rfl | kernel_rfl | decide +kernel)
    (case nn_len => first | k_is | exact rfl | kernel_rfl | decide +kernel)
    (case nn_range => first | k_is | exact rfl | kernel_rfl | decide +kernel)
    (case ht => first | k_is | exact rfl | kernel_rfl | decide +kernel)
  case S =>
    intro K PT H xs a hP hwi hask hx
    cases hx with
    | cons h1 h2 =>
      cases h2
      cases h1 with
      | lst hs ha =>
        have e := L2.ints_dw a.1 _ ha
        subst e
        have q : ((Codec.inLen 0 200 a.1 && a.1.all (Codec.inInt 0 18446744073709551615)) && true) = true := hwi
        rw [Bool.and_eq_true, Bool.and_eq_true] at q
        have hb : ∀ x ∈ a.1, 0 ≤ x ∧ x < 2 ^ 64 := fun x hx => BK.b64 (Codec.inInt_iff.mp (List.all_eq_true.mp q.1.2 x hx))
        have hl : a.1.length ≤ 200 := BK.inLen_le q.1.1
        refine ⟨rfl, L2.upd_same, a.1, _, rfl, fun j i v e1 e2 => ?_, fun more => ⟨_, rfl, BK.sq_tbl hP hs, hb, hl⟩, ?_, fun H' p hp => .lst (L2.SqL.of hp) (L2.dw_ints _)⟩
        · cases j with
          | zero => cases e1; exact e2
          | succ n => simp at e1
        · rw [RT.ratio_eq fun x hx => (hb x hx).1]
          refine BK.ratioM_len (by rw [List.length_map]; exact hl) fun n hn => ?_
          obtain ⟨x, hx, rfl⟩ := List.mem_map.mp hn
          exact BK.b64n (hb x hx)
#print axioms PySem.Challenge.cw_wholeamounts_s05_ratio_holds
end
