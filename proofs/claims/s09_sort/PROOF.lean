import PyProof.Rows.All
import Wide.All
import OpenK.AllK
import Wide.FinOn
import PyProof.EqAt
import PyProof.EqKinds
import PyProof.TupleCall
import KE.BitLaws
import Open.SpecLaws
import KE.OsHead
import KE.OsGo
import KE.KLam
import Sc06Spec
import PySc06
import KE.KSortKeySt
import KE.KSortTupG
import PySem.Challenge.RW_complexrows_s09_sort
set_option Elab.async false
set_option linter.all false
set_option maxRecDepth 100000
namespace L2
open PySem PySem.Spec PyProof.Rows

/-- a key: an int or a str -/
abbrev Key := Sum Int Str
def keyIs : Key → Value → Bool
  | .inl k, v => Value.isInt k v
  | .inr x, v => Value.isStrOf x v
def keyH (w : World) : Key → Int
  | .inl k => hashInt k
  | .inr x => hashStr w x
theorem keyIs_shape : ∀ {k : Key} {v : Value}, keyIs k v = true → (∃ i t, k = Sum.inl i ∧ v = Value.int i t) ∨ (∃ x t, k = Sum.inr x ∧ v = Value.str x t)
  | .inl i, v, h => by
    obtain ⟨t, e⟩ := Value.isInt_shape (k := i) (v := v) h
    exact .inl ⟨i, t, rfl, e⟩
  | .inr x, v, h => by
    obtain ⟨t, e⟩ := Value.isStrOf_shape (x := x) (v := v) h
    exact .inr ⟨x, t, rfl, e⟩
theorem key_ll (a b : Int) : decide ((Sum.inl a : Key) = Sum.inl b) = (a == b) := by
  by_cases e : a = b
  · subst e; simp
  · have h : ¬ (Sum.inl a : Key) = Sum.inl b := fun q => e (Sum.inl.inj q)
    rw [decide_eq_false h]
    exact (beq_eq_false_iff_ne.mpr e).symm
theorem key_rr (a b : Str) : decide ((Sum.inr a : Key) = Sum.inr b) = decide (a = b) := by
  by_cases e : a = b
  · subst e; simp
  · have h : ¬ (Sum.inr a : Key) = Sum.inr b := fun q => e (Sum.inr.inj q)
    rw [decide_eq_false h, decide_eq_false e]
theorem key_lr (a : Int) (b : Str) : decide ((Sum.inl a : Key) = Sum.inr b) = false := decide_eq_false (fun q => nomatch q)
theorem key_rl (a : Str) (b : Int) : decide ((Sum.inr a : Key) = Sum.inl b) = false := decide_eq_false (fun q => nomatch q)

def mixKind (prog : Program) (w : World) : PySem.KeyKind prog w Key where
  is := keyIs
  hash := keyH w
  inj := fun v a b ha hb => by
    rcases keyIs_shape ha with ⟨i, t, rfl, rfl⟩ | ⟨x, t, rfl, rfl⟩
    · rcases keyIs_shape hb with ⟨j, u, rfl, e⟩ | ⟨y, u, rfl, e⟩
      · injection e with e1 _; rw [e1]
      · exact nomatch e
    · rcases keyIs_shape hb with ⟨j, u, rfl, e⟩ | ⟨y, u, rfl, e⟩
      · exact nomatch e
      · injection e with e1 _; rw [e1]
  byValue := fun k v h => by
    rcases keyIs_shape h with ⟨i, t, rfl, rfl⟩ | ⟨x, t, rfl, rfl⟩ <;> rfl
  pyHash := fun hv h => by
    rcases keyIs_shape hv with ⟨i, t, rfl, rfl⟩ | ⟨x, t, rfl, rfl⟩
    · exact wpAny_pyHash_int h
    · exact wpAny_pyHash_str h
  eqBool := fun hu hv h => by
    rcases keyIs_shape hu with ⟨i, t, rfl, rfl⟩ | ⟨x, t, rfl, rfl⟩
    · rcases keyIs_shape hv with ⟨j, u, rfl, rfl⟩ | ⟨y, u, rfl, rfl⟩
      · rw [key_ll] at h; exact wpAny_eqBool_int h
      · rw [key_lr] at h; exact SeqAt.EqAt.int_str i t y u _ _ _ _ h
    · rcases keyIs_shape hv with ⟨j, u, rfl, rfl⟩ | ⟨y, u, rfl, rfl⟩
      · rw [key_rl] at h; exact SeqAt.EqAt.str_int x t j u _ _ _ _ h
      · rw [key_rr] at h; exact wpAny_eqBool_str h
  «strs» := fun k x t v h => by
    rcases keyIs_shape h with ⟨i, u, rfl, e⟩ | ⟨y, u, rfl, e⟩
    · exact nomatch e
    · injection e with e1 _
      subst e1
      cases v <;> rfl

end L2

namespace L2
open PySem PySem.Spec PyProof.Rows

/-- a value, without the heap -/
inductive V where
  | non | bl (b : Bool) | int (i : Int) | str (x : Str) | byt (b : Array UInt8) | flt (b : UInt64) | ref (a : Addr) | ty (n : String)
  deriving DecidableEq

def RelV : V → Value → Prop
  | .non, u => u = Value.none
  | .bl b, u => u = Value.bool b
  | .int i, u => ∃ t, u = Value.int i t
  | .str x, u => ∃ t, u = Value.str x t
  | .byt b, u => ∃ t, u = Value.bytes b t
  | .flt b, u => ∃ t, u = Value.float b t
  | .ref a, u => u = Value.ref a
  | .ty n, u => u = Value.type n

abbrev Vals : List V → List Value → Prop := Paired RelV
theorem Vals.length {xs : List V} {us : List Value} (r : Vals xs us) : xs.length = us.length := Paired.length r
theorem Vals.get : ∀ {xs : List V} {us : List Value} {i : Nat} {x : V}, Vals xs us → xs[i]? = some x → ∃ u, us[i]? = some u ∧ RelV x u
  | _, _, _, _, .nil, e => by simp at e
  | _, _, 0, _, .cons r _, e => by simp at e; subst e; exact ⟨_, rfl, r⟩
  | _, _, i + 1, x, .cons _ t, e => by
    obtain ⟨u, h1, h2⟩ := Vals.get (i := i) (x := x) t (by simpa using e)
    exact ⟨u, by simpa using h1, h2⟩
theorem Vals.append : ∀ {xs ys : List V} {us ws : List Value}, Vals xs us → Vals ys ws → Vals (xs ++ ys) (us ++ ws)
  | _, _, _, _, .nil, s => s
  | _, _, _, _, .cons r t, s => .cons r (Vals.append t s)
theorem Vals.take : ∀ {xs : List V} {us : List Value} (n : Nat), Vals xs us → Vals (xs.take n) (us.take n)
  | _, _, 0, _ => .nil
  | _, _, _ + 1, .nil => .nil
  | _, _, n + 1, .cons r t => .cons r (Vals.take n t)
theorem Vals.drop : ∀ {xs : List V} {us : List Value} (n : Nat), Vals xs us → Vals (xs.drop n) (us.drop n)
  | _, _, 0, r => r
  | _, _, _ + 1, .nil => .nil
  | _, _, n + 1, .cons _ t => Vals.drop n t
def RelO : Option V → Option Value → Prop
  | some v, some u => RelV v u
  | none, none => True
  | _, _ => False
def KV {κ : Type} : List (κ × V) → List (κ × Value) → Prop := Paired fun (p : κ × V) (q : κ × Value) => p.1 = q.1 ∧ RelV p.2 q.2

/-- a key of a dict (00_mix): an int or a text -/
def kV : Key → V
  | .inl i => .int i
  | .inr x => .str x

/-- what stands at a tracked address -/
inductive HO where
  /-- a list -/
  | lst (xs : List V)
  /-- a tuple (never changes) -/
  | tup (xs : List V)
  /-- a dict whose keys are ints and texts; one whose keys are tuples of ints and texts (the empty one is both) -/
  | dK (kvs : List (Key × V)) | dT (kvs : List (List Key × V))
  /-- a set of ints: its members, its size -/
  | set (S : Int → Bool) (n : Nat)
  /-- an instance of the class at C, its dict at dx, its attributes -/
  | ins (C dx : Addr) (fs : List (Str × V))
  /-- the dict of the instance at x -/
  | own (x : Addr)
  /-- the dict of an exception -/
  | xd (fs : List (Str × V))
  /-- a bound method, f of x -/
  | met (f x : Addr)
  /-- a range object lo, lo + 1, .. below hi -/
  | rng (lo hi : Int)
  /-- a thing that is known to the object (the script; a dict while a loop walks it): read, never written while it is so -/
  | frz (o : Obj) (u : HO)
  /-- a code object's table -/
  | tbl (ps : Array Value)
  /-- any other thing, by what is true of its one object (a def of one's own: SetO a S n := HO.ext fun h => ..) -/
  | ext (φ : Heap → Prop)

abbrev Hp := Addr → Option HO
def upd (H : Hp) (a : Addr) (o : HO) : Hp := fun b => if b = a then some o else H b
theorem upd_same {H : Hp} {a : Addr} {o : HO} : upd H a o a = some o := by unfold upd; rw [if_pos rfl]
theorem upd_ne {H : Hp} {a b : Addr} {o : HO} (h : b ≠ a) : upd H a o b = H b := by unfold upd; rw [if_neg h]
theorem ne_of_none {H : Hp} {a b : Addr} {o : HO} (h : H a = some o) (h' : H b = none) : a ≠ b := by
  intro e; subst e; rw [h] at h'; cases h'

section
variable (P : Program) (w : World)
def ObjOk (H : Hp) (h : Heap) (a : Addr) : HO → Prop
  | .lst xs => xs.length ≤ sizeLine ∧ ∃ (its : List Value) (n : Nat), Vals xs its ∧ h.get? a = some { cls := .type "list", data := .seq its.toArray n }
  | .tup xs => xs.length ≤ sizeLine ∧ ∃ its : List Value, Vals xs its ∧ IsTup h a its.toArray
  | .dK kvs => kvs.length ≤ sizeLine ∧ (a == sysModules) = false ∧ ∃ vs, KV kvs vs ∧ h.DictOf (mixKind P w) a vs
  | .dT kvs => kvs.length ≤ sizeLine ∧ (a == sysModules) = false ∧ ∃ xs : List (List Key × Addr × Value),
      Paired (fun (p : List Key × V) (q : List Key × Addr × Value) => p.1 = q.1 ∧ H q.2.1 = some (.tup (p.1.map kV)) ∧ RelV p.2 q.2.2) kvs xs ∧
      ∃ o es ep, h.get? a = some o ∧ o.ExactDict ∧ o.data = .dict es ep ∧ es.toList = xs.map (entryOfKey (tupleKind (mixKind P w))) ∧ (xs.map (·.1)).Nodup
  | .set S n => h.SetOf (intKind P w) a S n
  | .ins C dx fs => H dx = some (.own a) ∧ fs.length ≤ 1000 ∧ dx ≠ a ∧ h.get? a = some (PySem.W.instObj C dx) ∧
      ∃ mA, h.Ns1 dx mA ∧ (∀ f, RelO (fs.lookup f) (mA f)) ∧ PySem.Within mA (fs.map (·.1))
  | .own _ => ∃ o, h.get? a = some o
  | .xd fs => ∃ mA, h.Ns1 a mA ∧ ∀ f, RelO (fs.lookup f) (mA f)
  | .rng lo hi => ∃ t u v, h.get? a = some { cls := .type "range", data := .fields #[.int lo t, .int hi u, .int 1 v] }
  | .frz o u => h.get? a = some o ∧ ObjOk H h a u
  | .tbl ps => h.get? a = some { cls := .none, data := .fields ps }
  | .met f x => h.get? a = some (PySem.W.methodObj (.ref f) (.ref x))
  | .ext φ => φ h ∧ (∃ o, h.get? a = some o) ∧ ∀ h1 h2 : Heap, φ h1 → (∀ o, h1.get? a = some o → h2.get? a = some o) → φ h2
/-- the abstract heap is held -/
def HOk (H : Hp) (h : Heap) : Prop := ∀ a o, H a = some o → ObjOk P w H h a o
end

section
variable {P : Program} {w : World} {H H' : Hp} {h h' : Heap} {a : Addr} {o : HO}
theorem ObjOk.lt (x : ObjOk P w H h a o) : a < h.objs.size := by
  cases o with
  | lst xs => obtain ⟨_, _, _, _, e⟩ := x; exact Heap.lt_size e
  | tup xs => obtain ⟨_, _, _, p⟩ := x; exact p.lt
  | dK kvs => obtain ⟨_, _, _, _, o, _, _, e, _⟩ := x; exact Heap.lt_size e
  | dT kvs => obtain ⟨_, _, _, _, o, _, _, e, _⟩ := x; exact Heap.lt_size e
  | set S n => obtain ⟨o, _, _, _, e, _⟩ := x; exact Heap.lt_size e
  | ins C dx fs => obtain ⟨_, _, _, e, _⟩ := x; exact Heap.lt_size e
  | own y => obtain ⟨_, e⟩ := x; exact Heap.lt_size e
  | xd fs => obtain ⟨_, ⟨_, _, _, e, _⟩, _⟩ := x; exact Heap.lt_size e
  | rng lo hi => obtain ⟨_, _, _, e⟩ := x; exact Heap.lt_size e
  | frz ob u => obtain ⟨e, _⟩ := x; exact Heap.lt_size e
  | tbl ps => exact Heap.lt_size (show h.get? a = some _ from x)
  | met f y => exact Heap.lt_size (show h.get? a = some _ from x)
  | ext φ => obtain ⟨_, ⟨_, e⟩, _⟩ := x; exact Heap.lt_size e
theorem Paired.mapP {α β : Type} {F G : α → β → Prop} : ∀ {l₁ : List α} {l₂ : List β}, Paired F l₁ l₂ → (∀ a b, F a b → G a b) → Paired G l₁ l₂
  | _, _, .nil, _ => .nil
  | _, _, .cons r t, f => .cons (f _ _ r) (Paired.mapP t f)
/-- what an object's description leans on: its own object, its own dict, the tuples -/
theorem ObjOk.stay (x : ObjOk P w H h a o) (k : ∀ b u, (b = a ∨ H b = some (.own a)) → h.get? b = some u → h'.get? b = some u)
    (ho : ∀ b, H b = some (.own a) → H' b = some (.own a)) (ht : ∀ b xs, H b = some (.tup xs) → H' b = some (.tup xs)) : ObjOk P w H' h' a o := by
  induction o with
  | lst xs => obtain ⟨z, its, n, r, e⟩ := x; exact ⟨z, its, n, r, k _ _ (.inl rfl) e⟩
  | tup xs => obtain ⟨z, its, r, ob, e, c⟩ := x; exact ⟨z, its, r, ob, k _ _ (.inl rfl) e, c⟩
  | dK kvs => obtain ⟨z, y, vs, r, ob, es, ep, e, c⟩ := x; exact ⟨z, y, vs, r, ob, es, ep, k _ _ (.inl rfl) e, c⟩
  | dT kvs =>
    obtain ⟨z, y, xs, r, ob, es, ep, e, c⟩ := x
    exact ⟨z, y, xs, Paired.mapP r fun p q z => ⟨z.1, ht _ _ z.2.1, z.2.2⟩, ob, es, ep, k _ _ (.inl rfl) e, c⟩
  | set S n => obtain ⟨ob, es, ep, t, e, c⟩ := x; exact ⟨ob, es, ep, t, k _ _ (.inl rfl) e, c⟩
  | ins C dx fs =>
    obtain ⟨d, z, ne, e, mA, ⟨od, es, ep, e2, c⟩, r⟩ := x
    exact ⟨ho _ d, z, ne, k _ _ (.inl rfl) e, mA, ⟨od, es, ep, k _ _ (.inr d) e2, c⟩, r⟩
  | own y => obtain ⟨ob, e⟩ := x; exact ⟨ob, k _ _ (.inl rfl) e⟩
  | xd fs => obtain ⟨mA, ⟨od, es, ep, e, c⟩, r⟩ := x; exact ⟨mA, ⟨od, es, ep, k _ _ (.inl rfl) e, c⟩, r⟩
  | rng lo hi => obtain ⟨t, u, v, e⟩ := x; exact ⟨t, u, v, k _ _ (.inl rfl) e⟩
  | frz ob u ih => obtain ⟨e, q⟩ := x; exact ⟨k _ _ (.inl rfl) e, ih q⟩
  | tbl ps =>
    have e : h.get? a = some { cls := .none, data := .fields ps } := x
    show h'.get? a = some { cls := .none, data := .fields ps }
    exact k a _ (.inl rfl) e
  | met f y =>
    have e : h.get? a = some (PySem.W.methodObj (.ref f) (.ref y)) := x
    show h'.get? a = some (PySem.W.methodObj (.ref f) (.ref y))
    exact k a _ (.inl rfl) e
  | ext φ => obtain ⟨p, ⟨o, e⟩, st⟩ := x; exact ⟨st _ _ p fun o q => k _ _ (.inl rfl) q, ⟨o, k _ _ (.inl rfl) e⟩, st⟩
theorem HOk.lt (x : HOk P w H h) (e : H a = some o) : a < h.objs.size := (x a o e).lt
theorem HOk.fresh (x : HOk P w H h) (e : h.objs.size ≤ a) : H a = none := by
  cases q : H a with
  | none => rfl
  | some u => exact absurd (Nat.lt_of_lt_of_le (x.lt q) e) (Nat.lt_irrefl _)
/-- every object of the heap is kept -/
theorem HOk.kept (x : HOk P w H h) (k : ∀ b u, h.get? b = some u → h'.get? b = some u) : HOk P w H h' := fun a o e =>
  (x a o e).stay (fun b u _ q => k b u q) (fun _ q => q) fun _ _ q => q
/-- a new object is laid and tracked -/
theorem HOk.laid (x : HOk P w H h) (k : ∀ b u, h.get? b = some u → h'.get? b = some u) (hp : h.objs.size ≤ a) (new : ObjOk P w (upd H a o) h' a o) : HOk P w (upd H a o) h' := fun b u e => by
  have hn := x.fresh hp
  by_cases hb : b = a
  · subst hb; rw [upd_same] at e; cases e; exact new
  · rw [upd_ne hb] at e
    exact (x b u e).stay (fun c v _ q => k c v q) (fun c q => by rw [upd_ne (ne_of_none q hn)]; exact q) fun c xs q => by rw [upd_ne (ne_of_none q hn)]; exact q
end

/-- what may be read as u: it is u, or a known u -/
def Rd (H : Hp) (a : Addr) (u : HO) : Prop := H a = some u ∨ ∃ o, H a = some (.frz o u)
theorem Rd.ok {P : Program} {w : World} {H : Hp} {h : Heap} {a : Addr} {u : HO} (r : Rd H a u) (x : HOk P w H h) : ObjOk P w H h a u := by
  rcases r with r | ⟨o, r⟩
  · exact x a u r
  · obtain ⟨_, q⟩ := x a _ r
    exact q
/-- what may be written -/
def Mut : Option HO → Prop
  | some (.lst _) => True
  | some (.dK _) => True
  | some (.dT _) => True
  | some (.set _ _) => True
  | some (.ins _ _ _) => True
  | some (.ext _) => True
  | _ => False
section
variable {P : Program} {w : World} {H : Hp} {h h' : Heap} {x e : Addr} {o' : HO}
/-- the object at e is changed: x itself, or the dict of the instance x -/
theorem HOk.write (ok : HOk P w H h) (mu : Mut (H x)) (he : e = x ∨ H e = some (.own x)) (k : ∀ b u, b ≠ e → h.get? b = some u → h'.get? b = some u) (heo : ∃ u, h'.get? e = some u)
    (new : ObjOk P w (upd H x o') h' x o') : HOk P w (upd H x o') h' := fun b u q => by
  have nown : ∀ c y, H c = some (.own y) → c ≠ x := fun c y r z => by subst z; rw [r] at mu; exact mu
  have ntup : ∀ c xs, H c = some (.tup xs) → c ≠ x := fun c xs r z => by subst z; rw [r] at mu; exact mu
  by_cases hb : b = x
  · subst hb; rw [upd_same] at q; cases q; exact new
  · rw [upd_ne hb] at q
    by_cases hbe : b = e
    · have q' : H b = some (.own x) := by
        rcases he with z | z
        · exact absurd (hbe.trans z) hb
        · rw [hbe]; exact z
      rw [q] at q'; cases q'
      obtain ⟨v, hv⟩ := heo
      exact ⟨v, by rw [hbe]; exact hv⟩
    · refine (ok b u q).stay (fun c v hc r => k c v ?_ r) (fun c r => by rw [upd_ne (nown c b r)]; exact r) fun c xs r => by rw [upd_ne (ntup c xs r)]; exact r
      rcases hc with rfl | hc
      · exact hbe
      · rintro rfl
        rcases he with z | z
        · exact nown c b hc z
        · rw [hc] at z; cases z; exact hb rfl
end

structure Un (fs ex : List Addr) (H H' : Hp) (h h' : Heap) : Prop where
  keep : ∀ b o, h.get? b = some o → H b = none → b ∉ fs → b ∉ ex → h'.get? b = some o
  slot : ∀ b o, h.get? b = some o → H b = none → b ∈ fs → b ∉ ex → ∃ sl, h'.get? b = some { o with slots := sl }
  free : ∀ b o, h.get? b = some o → H b = none → b ∉ ex → H' b = none
  there : ∀ b o, h.get? b = some o → b ∉ ex → ∃ o', h'.get? b = some o'
  tups : ∀ b xs, H b = some (.tup xs) → H' b = some (.tup xs)
  frzs : ∀ b o u, H b = some (.frz o u) → H' b = some (.frz o u)
  tbls : ∀ b ps, H b = some (.tbl ps) → ∃ more, H' b = some (.tbl (ps ++ more))
section
variable {fs fs' ex ex' : List Addr} {H H1 H2 : Hp} {h h1 h2 h' : Heap} {a x e : Addr} {o : HO}
theorem Un.any (u : Un fs ex H H1 h h1) {b : Addr} {ob : Obj} (q : h.get? b = some ob) (n : H b = none) (hx : b ∉ ex) : ∃ sl, h1.get? b = some { ob with slots := sl } := by
  by_cases hb : b ∈ fs
  · exact u.slot b ob q n hb hx
  · exact ⟨ob.slots, u.keep b ob q n hb hx⟩
theorem Un.kept (k : ∀ b u, h.get? b = some u → h'.get? b = some u) : Un fs ex H H h h' :=
  ⟨fun b ob q _ _ _ => k b ob q, fun b ob q _ _ _ => ⟨ob.slots, k b ob q⟩, fun _ _ _ n _ => n, fun b ob q _ => ⟨ob, k b ob q⟩, fun _ _ q => q, fun _ _ _ q => q, fun _ ps q => ⟨#[], by rw [q]; simp⟩⟩
theorem Un.refl : Un fs ex H H h h := Un.kept fun _ _ q => q
theorem Un.laid (k : ∀ b u, h.get? b = some u → h'.get? b = some u) (hp : h.objs.size ≤ a) (hn : H a = none) : Un fs ex H (upd H a o) h h' where
  keep := fun b u q _ _ _ => k b u q
  slot := fun b u q _ _ _ => ⟨u.slots, k b u q⟩
  free := fun b u q n _ => by rw [upd_ne (Nat.ne_of_lt (Nat.lt_of_lt_of_le (Heap.lt_size q) hp))]; exact n
  there := fun b u q _ => ⟨u, k b u q⟩
  tups := fun b xs q => by rw [upd_ne (ne_of_none q hn)]; exact q
  frzs := fun b u xs q => by rw [upd_ne (ne_of_none q hn)]; exact q
  tbls := fun b ps q => ⟨#[], by rw [upd_ne (ne_of_none q hn), q]; simp⟩
theorem Un.write (mu : Mut (H x)) (he : e = x ∨ H e = some (.own x)) (k : ∀ b u, b ≠ e → h.get? b = some u → h'.get? b = some u) (heo : ∃ u, h'.get? e = some u) : Un fs ex H (upd H x o) h h' := by
  have hx : ∀ b, H b = none → b ≠ x := fun b n z => by subst z; rw [n] at mu; exact mu
  have hb : ∀ b, H b = none → b ≠ e := fun b n z => by
    subst z
    rcases he with r | r
    · exact hx b n r
    · rw [n] at r; cases r
  have hm : ∀ b u, H b = some u → ¬ Mut (some u) → b ≠ x := fun b u q nm z => by subst z; rw [q] at mu; exact nm mu
  refine ⟨fun b u q n _ _ => k b u (hb b n) q, fun b u q n _ _ => ⟨u.slots, k b u (hb b n) q⟩, fun b u q n _ => by rw [upd_ne (hx b n)]; exact n, fun b u q _ => ?_,
    fun b xs q => by rw [upd_ne (hm b _ q fun z => z)]; exact q, fun b u xs q => by rw [upd_ne (hm b _ q fun z => z)]; exact q, fun b ps q => ⟨#[], by rw [upd_ne (hm b _ q fun z => z), q]; simp⟩⟩
  by_cases hbe : b = e
  · subst hbe; exact heo
  · exact ⟨u, k b u hbe q⟩
end

def trk (h : Heap) (H : Hp) : List Addr := (List.range h.objs.size).filter fun a => (H a).isSome
def hidT (h : Heap) (H : Hp) : Heap := PySem.W.hideAll h (trk h H)
theorem hidT_size (h : Heap) (H : Hp) : (hidT h H).objs.size = h.objs.size := PySem.W.hideAll_size _ _
theorem hidT_get {h : Heap} {H : Hp} {b : Addr} {o : Obj} (e : h.get? b = some o) (n : H b = none) : (hidT h H).get? b = some o :=
  PySem.W.hideAll_get _ e fun hm => by
    have q : (H b).isSome = true := (List.mem_filter.mp hm).2
    rw [n] at q; simp at q
theorem of_hidT {h : Heap} {H : Hp} {b : Addr} {o : Obj} (e : (hidT h H).get? b = some o) : h.get? b = some o ∧ H b = none := by
  have e' : h.get? b = some o := PySem.W.of_hideAll (trk h H) e
  refine ⟨e', ?_⟩
  cases q : H b with
  | none => rfl
  | some x =>
    have hm : b ∈ trk h H := List.mem_filter.mpr ⟨List.mem_range.mpr (Heap.lt_size e'), by simp [q]⟩
    have z : (hidT h H).get? b = none := PySem.W.hideAll_none (trk h H) hm
    rw [z] at e; cases e

end L2

namespace L2
open PySem PySem.Spec PyProof.Rows

/-- the module's facts, over the base: the heap at the law's entry without what is tracked there -/
structure Mod (K : PySem.W.Frag) (mg : Str → Option Value) (base : Heap) : Prop where
  kin : K.In base
  glob : base.Ns mainGlobals mg
  blt : ∃ mb, base.Ns builtinsNs mb ∧ ∀ x : Str, x ≠ "__name__" → mb x = bootBuiltins x
  nolimit : base.NoLimit

/-- the context: a def's body (or a comprehension's block) running. base: fixed through the whole law; s₀, H₀: the entry; outer: the frames whose slots others may change (a def's callers); stack: all frames that run;
   ex: iterators that were made ahead of the entry and are walked here (a comprehension's); fn: the names whose cells were made at the entry (a def: all; a comprehension's block: its own); calm: not within an except suite; pn: pins that every state bears; xe: what is wanted of an exception that leaves the code -/
structure Cx where
  prog : Program
  w : World
  K : PySem.W.Frag
  mg : Str → Option Value
  base : Heap
  A : Around
  N : List Str
  s_0 : Shared
  H_0 : Hp
  env : Env
  outer : List Env
  stack : List Env
  ex : List Addr
  fn : Str → Bool
  calm : Bool
  pn : List (Addr × Obj)
  xe : Value → Shared → Prop
/-- the callers' frames -/
def frs (l : List Env) : List Addr := l.filterMap (·.frame)
abbrev Cx.fs (X : Cx) : List Addr := frs X.outer

def Vis (sc : Scope) (x : Str) : Prop := sc.names.lookup x = some .local ∨ sc.names.lookup x = some .cell ∨ sc.names.lookup x = some .free
def Loc (sc : Scope) (x : Str) : Prop := sc.names.lookup x = some .local ∨ sc.names.lookup x = some .cell
def Look (env : Env) (h : Heap) (m : Str → Option Value) (x : Str) (u : Value) : Prop :=
  (env.kindOf x = some .local ∧ m x = some u) ∨ ((env.kindOf x = some .cell ∨ env.kindOf x = some .free) ∧ ∃ c, env.cells.lookup x = some c ∧ h.IsCell c (some u))

structure Cx.Ok (X : Cx) : Prop where
  mod : Mod X.K X.mg X.base
  kind : X.env.scope.kind = .function
  glob : X.env.globals = mainGlobals
  blt : X.env.builtins = builtinsNs
  above : X.s_0.heap.objs.size ≤ X.env.locals
  inj : ∀ x y c, X.env.cells.lookup x = some c → X.env.cells.lookup y = some c → x = y
  has : ∀ x, (X.env.kindOf x = some .cell ∨ X.env.kindOf x = some .free) → ∃ c, X.env.cells.lookup x = some c
  cab : ∀ x c, X.fn x = true → X.env.cells.lookup x = some c → X.s_0.heap.objs.size ≤ c
  hd : X.calm = true → X.A.handled = none
  frames : X.A.frames = some X.stack
  stk : X.stack = X.outer ∨ (X.stack = X.env :: X.outer ∧ X.env.frame = some X.env.locals)
  exf : ∀ b ∈ X.ex, b ≠ X.env.locals ∧ ∀ x c, X.env.cells.lookup x = some c → c ≠ b
  bs : ∀ b o, X.base.get? b = some o → X.s_0.heap.get? b = some o ∧ X.H_0 b = none
  bsz : X.base.objs.size ≤ X.s_0.heap.objs.size
  noex : ∀ b o, X.base.get? b = some o → b ∉ X.ex
  exfs : ∀ b ∈ X.ex, b ∉ X.fs
  funs : X.s_0.heap.FunFrames X.base X.outer
  frf : ∀ b ∈ X.fs, X.H_0 b = none

structure Inv (X : Cx) (pins : List (Addr × Obj)) (σ : List (Option V)) (H : Hp) (s : Shared) : Prop where
  ok : X.Ok
  os : s.os = X.s_0.os
  bare : AllBare s.gens
  base : Un X.fs X.ex X.H_0 H X.s_0.heap s.heap
  loc : ∃ m, s.heap.Ns X.env.locals m ∧ ∀ (i : Nat) (x : Str) (v : V), X.N[i]? = some x → σ[i]? = some (some v) → Vis X.env.scope x → ∃ u, RelV v u ∧ Look X.env s.heap m x u
  cell : ∀ x c, X.env.cells.lookup x = some c → ∃ v, s.heap.IsCell c v
  free : H X.env.locals = none
  freeC : ∀ x c, X.env.cells.lookup x = some c → H c = none
  pin : ∀ p ∈ X.pn ++ pins, s.heap.get? p.1 = some p.2 ∧ H p.1 = none ∧ p.1 ≠ X.env.locals ∧ p.1 ∉ X.fs ∧ ∀ v, p.2.data ≠ .cell v
  hok : HOk X.prog X.w H s.heap
  len : σ.length = X.N.length

section
variable {X : Cx} {pins : List (Addr × Obj)} {σ : List (Option V)} {H H' : Hp} {s : Shared} {h' : Heap}

theorem Cx.Ok.nofr (ok : X.Ok) {b : Addr} {o : Obj} (e : X.base.get? b = some o) : b ∉ X.fs := fun hb => by
  have := (ok.funs.mem hb).1
  rw [e] at this; cases this
theorem Inv.bs (I : Inv X pins σ H s) : ∀ b o, X.base.get? b = some o → s.heap.get? b = some o ∧ H b = none := fun b o e =>
  ⟨I.base.keep b o (I.ok.bs b o e).1 (I.ok.bs b o e).2 (I.ok.nofr e) (I.ok.noex b o e), I.base.free b o (I.ok.bs b o e).1 (I.ok.bs b o e).2 (I.ok.noex b o e)⟩
theorem Inv.bk (I : Inv X pins σ H s) : ∀ b o, X.base.get? b = some o → s.heap.get? b = some o := fun b o e => (I.bs b o e).1
theorem Inv.mod (I : Inv X pins σ H s) : Mod X.K X.mg X.base := I.ok.mod
theorem Inv.kIn (I : Inv X pins σ H s) : X.K.In s.heap := I.ok.mod.kin.keeps I.bk
theorem Inv.lt (I : Inv X pins σ H s) : X.env.locals < s.heap.objs.size := let ⟨_, hn, _⟩ := I.loc; hn.lt
theorem Inv.sz (I : Inv X pins σ H s) : X.s_0.heap.objs.size ≤ s.heap.objs.size := Nat.le_trans I.ok.above (Nat.le_of_lt I.lt)
theorem Inv.nofs (I : Inv X pins σ H s) {a : Addr} (h : s.heap.objs.size ≤ a) : a ∉ X.fs := fun hb => by
  obtain ⟨_, o, ho, _⟩ := I.ok.funs.mem hb
  exact absurd (Nat.lt_of_lt_of_le (Heap.lt_size ho) (Nat.le_trans I.sz h)) (Nat.lt_irrefl _)
theorem Inv.cne (I : Inv X pins σ H s) : ∀ x c, X.env.cells.lookup x = some c → c ≠ X.env.locals := fun x c e z => by
  obtain ⟨v, o, ho, hd⟩ := I.cell x c e
  obtain ⟨m, ⟨o', es, ep, ho', hd', _⟩, _⟩ := I.loc
  rw [z, ho'] at ho; cases ho; rw [hd'] at hd; cases hd
theorem Inv.funs (I : Inv X pins σ H s) : s.heap.FunFrames X.base X.outer := by
  have all : ∀ (l : List Env), (∀ b ∈ frs l, b ∈ X.fs) → X.s_0.heap.FunFrames X.base l → s.heap.FunFrames X.base l := by
    intro l
    induction l with
    | nil => intro _ _; trivial
    | cons env r ih =>
      intro hs hl
      obtain ⟨hk, ⟨L, o, hf, hn, ho, hd⟩, hr⟩ := hl
      have hL : L ∈ X.fs := hs L (by unfold frs; rw [List.filterMap_cons, hf]; exact List.mem_cons_self)
      obtain ⟨sl, e⟩ := I.base.slot L o ho (I.ok.frf L hL) hL fun z => I.ok.exfs L z hL
      exact ⟨hk, ⟨L, _, hf, hn, e, hd⟩, ih (fun b hb => hs b (by unfold frs; rw [List.filterMap_cons, hf]; exact List.mem_cons_of_mem _ hb)) hr⟩
  exact all X.outer (fun _ hb => hb) I.ok.funs

/-- the frames that run, for a call -/
theorem Inv.stack (I : Inv X pins σ H s) : s.heap.FunFrames X.base X.stack := by
  rcases I.ok.stk with e | ⟨e, hf⟩
  · rw [e]; exact I.funs
  · rw [e]
    obtain ⟨m, hn, _⟩ := I.loc
    refine .cons (by rw [I.ok.kind]; decide) hf hn ?_ I.funs
    exact Heap.get?_none_of_le (Nat.le_trans I.ok.bsz I.ok.above)
theorem Inv.stkSub (I : Inv X pins σ H s) : ∀ b ∈ frs X.stack, b ∈ X.env.locals :: X.fs := fun b hb => by
  rcases I.ok.stk with e | ⟨e, hf⟩
  · rw [e] at hb; exact List.mem_cons_of_mem _ hb
  · rw [e] at hb
    unfold frs at hb
    rw [List.filterMap_cons, hf] at hb
    exact hb
theorem Inv.stkFree (I : Inv X pins σ H s) : ∀ b ∈ frs X.stack, H b = none := fun b hb => by
  rcases List.mem_cons.mp (I.stkSub b hb) with e | hb
  · rw [e]; exact I.free
  · obtain ⟨_, o, ho, _⟩ := I.ok.funs.mem hb
    exact I.base.free b o ho (I.ok.frf b hb) fun z => I.ok.exfs b z hb

/-- THE STEP: the untracked objects but the frame and the records at ch are kept (the callers' frames up to slots), the frame's map is kept, the new abstract heap is held -/
theorem Inv.step {g' : Array GenState} {t' : Nat} {d' : Drawn} {ch : List Addr} (I : Inv X pins σ H s)
    (hch : ∀ b ∈ ch, (b ∈ X.ex ∨ X.s_0.heap.objs.size ≤ b) ∧ b ≠ X.env.locals ∧ (∀ x c, X.env.cells.lookup x = some c → c ≠ b) ∧ ∀ p ∈ X.pn ++ pins, p.1 ≠ b)
    (keep : ∀ b o, b ≠ X.env.locals → b ∉ X.fs → b ∉ ch → s.heap.get? b = some o → H b = none → h'.get? b = some o)
    (slot : ∀ b o, b ≠ X.env.locals → b ∈ X.fs → b ∉ ch → s.heap.get? b = some o → H b = none → ∃ sl, h'.get? b = some { o with slots := sl }) (free : ∀ b o, b ∉ ch → s.heap.get? b = some o → H b = none → H' b = none)
    (there : ∀ b o, b ∉ ch → s.heap.get? b = some o → ∃ o', h'.get? b = some o')
    (tups : ∀ b xs, H b = some (.tup xs) → H' b = some (.tup xs)) (frzs : ∀ b o u, H b = some (.frz o u) → H' b = some (.frz o u)) (tbls : ∀ b ps, H b = some (.tbl ps) → ∃ more, H' b = some (.tbl (ps ++ more)))
    (ns : ∀ m, s.heap.Ns X.env.locals m → h'.Ns X.env.locals m) (hok : HOk X.prog X.w H' h') (hg : AllBare g') :
    Inv X pins σ H' { s with heap := h', gens := g', drawn := d', toks := t' } := by
  have neL : ∀ b o, X.s_0.heap.get? b = some o → b ≠ X.env.locals := fun b o e => Nat.ne_of_lt (Nat.lt_of_lt_of_le (Heap.lt_size e) I.ok.above)
  have neC : ∀ b o, X.s_0.heap.get? b = some o → b ∉ X.ex → b ∉ ch := fun b o e hx hb => by
    rcases (hch b hb).1 with z | z
    · exact hx z
    · exact absurd (Nat.lt_of_lt_of_le (Heap.lt_size e) z) (Nat.lt_irrefl _)
  have cellK : ∀ x c, X.env.cells.lookup x = some c → ∀ v, s.heap.IsCell c v → h'.IsCell c v := fun x c e v ⟨o, ho, hd⟩ => by
    have nch : c ∉ ch := fun z => (hch c z).2.2.1 x c e rfl
    by_cases hc : c ∈ X.fs
    · obtain ⟨sl, q⟩ := slot c o (I.cne x c e) hc nch ho (I.freeC x c e)
      exact ⟨_, q, hd⟩
    · exact ⟨o, keep c o (I.cne x c e) hc nch ho (I.freeC x c e), hd⟩
  refine ⟨I.ok, I.os, hg, ⟨fun b o e n hb hx => ?_, fun b o e n hb hx => ?_, fun b o e n hx => ?_, fun b o e hx => ?_, fun b xs e => tups b xs (I.base.tups b xs e), fun b o xs e => frzs b o xs (I.base.frzs b o xs e), fun b ps e => ?_⟩, ?_, fun x c e => ?_, ?_, fun x c e => ?_, fun p hp => ?_, hok, I.len⟩
  · exact keep b o (neL b o e) hb (neC b o e hx) (I.base.keep b o e n hb hx) (I.base.free b o e n hx)
  · obtain ⟨sl, e1⟩ := I.base.slot b o e n hb hx
    obtain ⟨sl', e2⟩ := slot b _ (neL b o e) hb (neC b o e hx) e1 (I.base.free b o e n hx)
    exact ⟨sl', e2⟩
  · obtain ⟨o', e1⟩ := I.base.there b o e hx
    exact free b o' (neC b o e hx) e1 (I.base.free b o e n hx)
  · obtain ⟨o', e1⟩ := I.base.there b o e hx
    exact there b o' (neC b o e hx) e1
  · obtain ⟨m1, e1⟩ := I.base.tbls b ps e
    obtain ⟨m2, e2⟩ := tbls b _ e1
    exact ⟨m1 ++ m2, by rw [e2, Array.append_assoc]⟩
  · obtain ⟨m, hn, hl⟩ := I.loc
    refine ⟨m, ns m hn, fun i x v e1 e2 e3 => ?_⟩
    obtain ⟨u, r, l⟩ := hl i x v e1 e2 e3
    refine ⟨u, r, ?_⟩
    rcases l with l | ⟨k, c, e, z⟩
    · exact .inl l
    · exact .inr ⟨k, c, e, cellK x c e _ z⟩
  · obtain ⟨v, z⟩ := I.cell x c e
    exact ⟨v, cellK x c e v z⟩
  · obtain ⟨m, ⟨o, _, _, ho, _⟩, _⟩ := I.loc
    exact free _ o (fun z => (hch _ z).2.1 rfl) ho I.free
  · obtain ⟨v, o, ho, hd⟩ := I.cell x c e
    exact free c o (fun z => (hch c z).2.2.1 x c e rfl) ho (I.freeC x c e)
  · obtain ⟨e, n, ne, nf, d⟩ := I.pin p hp
    have nch : p.1 ∉ ch := fun z => (hch p.1 z).2.2.2 p hp rfl
    exact ⟨keep p.1 p.2 ne nf nch e n, free p.1 p.2 nch e n, ne, nf, d⟩
/-- .. where the frame's own object is kept too -/
theorem Inv.un {t' : Nat} (I : Inv X pins σ H s) (u : Un X.fs [] H H' s.heap h') (hok : HOk X.prog X.w H' h') : Inv X pins σ H' { s with heap := h', toks := t' } := by
  obtain ⟨m, ⟨o, es, ep, ho, r⟩, _⟩ := id I.loc
  obtain ⟨sl, hL⟩ := u.any ho I.free (by simp)
  exact I.step (g' := s.gens) (d' := s.drawn) (ch := []) (fun _ z => nomatch z) (fun b o _ hb _ e n => u.keep b o e n hb (by simp)) (fun b o _ hb _ e n => u.slot b o e n hb (by simp)) (fun b o _ e n => u.free b o e n (by simp)) (fun b o _ e => u.there b o e (by simp)) u.tups u.frzs u.tbls (fun m' hm => by
    obtain ⟨o', es', ep', ho', r'⟩ := hm
    rw [ho] at ho'; cases ho'
    exact ⟨_, es', ep', hL, r'⟩) hok I.bare
/-- behind a call (or a comprehension's block): the slots of this frame may have changed too, the records at ch may have turned -/
theorem Inv.call {g' : Array GenState} {t' : Nat} {d' : Drawn} {ch : List Addr} (I : Inv X pins σ H s) (u : Un (frs X.stack) ch H H' s.heap h') (hok : HOk X.prog X.w H' h') (hg : AllBare g')
    (hch : ∀ b ∈ ch, (b ∈ X.ex ∨ X.s_0.heap.objs.size ≤ b) ∧ b ≠ X.env.locals ∧ (∀ x c, X.env.cells.lookup x = some c → c ≠ b) ∧ ∀ p ∈ X.pn ++ pins, p.1 ≠ b) :
    Inv X pins σ H' { s with heap := h', gens := g', drawn := d', toks := t' } := by
  obtain ⟨m, ⟨o, es, ep, ho, r⟩, _⟩ := id I.loc
  obtain ⟨sl, hL⟩ := u.any ho I.free fun z => (hch _ z).2.1 rfl
  exact I.step (ch := ch) hch (fun b o hL hb hc e n => u.keep b o e n (fun z => (List.mem_cons.mp (I.stkSub b z)).elim hL hb) hc) (fun b o _ _ hc e n => u.any e n hc) (fun b o hc e n => u.free b o e n hc) (fun b o hc e => u.there b o e hc) u.tups u.frzs u.tbls (fun m' hm => by
    obtain ⟨o', es', ep', ho', r'⟩ := hm
    rw [ho] at ho'; cases ho'
    exact ⟨_, es', ep', hL, r'⟩) hok hg
/-- an untracked record of ours (an iterator) has turned -/
theorem Inv.turned {t' : Nat} {it : Addr} (I : Inv X pins σ H s) (k : ∀ b o, b ≠ it → s.heap.get? b = some o → h'.get? b = some o) (hn : H it = none) (hL : it ≠ X.env.locals)
    (h1 : it ∈ X.ex ∨ X.s_0.heap.objs.size ≤ it) (h2 : ∀ x c, X.env.cells.lookup x = some c → c ≠ it) (h3 : ∀ p ∈ X.pn ++ pins, p.1 ≠ it) : Inv X pins σ H { s with heap := h', toks := t' } := by
  have nit : ∀ b u, H b = some u → b ≠ it := fun b u e z => by rw [z, hn] at e; cases e
  refine I.step (g' := s.gens) (d' := s.drawn) (ch := [it]) (fun b hb => ?_) (fun b o _ _ hc e _ => k b o (fun z => hc (by simp [z])) e) (fun b o _ _ hc e _ => ⟨o.slots, k b o (fun z => hc (by simp [z])) e⟩) (fun _ _ _ _ n => n)
    (fun b o hc e => ⟨o, k b o (fun z => hc (by simp [z])) e⟩) (fun _ _ e => e) (fun _ _ _ e => e) (fun b ps e => ⟨#[], by rw [e]; simp⟩) (fun m hm => ?_) (fun b u e => ?_) I.bare
  · have e : b = it := by simpa using hb
    subst e
    exact ⟨h1, hL, h2, h3⟩
  · obtain ⟨o, es, ep, ho, r⟩ := hm
    exact ⟨o, es, ep, k _ o (Ne.symm hL) ho, r⟩
  · refine (I.hok b u e).stay (fun c v hc q => k c v ?_ q) (fun _ q => q) fun _ _ q => q
    rcases hc with z | z
    · rw [z]; exact nit b u e
    · exact nit c _ z
theorem Inv.tok (I : Inv X pins σ H s) (t : Nat) : Inv X pins σ H { s with toks := t } := I.un (h' := s.heap) (t' := t) Un.refl I.hok
/-- all objects kept -/
theorem Inv.kept {t' : Nat} (I : Inv X pins σ H s) (k : ∀ b u, s.heap.get? b = some u → h'.get? b = some u) : Inv X pins σ H { s with heap := h', toks := t' } := I.un (Un.kept k) (I.hok.kept k)
/-- a new object laid and tracked -/
theorem Inv.laid {a : Addr} {o : HO} {t' : Nat} (I : Inv X pins σ H s) (k : ∀ b u, s.heap.get? b = some u → h'.get? b = some u) (hp : s.heap.objs.size ≤ a) (new : ObjOk X.prog X.w (upd H a o) h' a o) :
    Inv X pins σ (upd H a o) { s with heap := h', toks := t' } := I.un (Un.laid k hp (I.hok.fresh hp)) (I.hok.laid k hp new)
/-- an object written -/
theorem Inv.write {x e : Addr} {o : HO} {t' : Nat} (I : Inv X pins σ H s) (mu : Mut (H x)) (he : e = x ∨ H e = some (.own x)) (k : ∀ b u, b ≠ e → s.heap.get? b = some u → h'.get? b = some u) (heo : ∃ u, h'.get? e = some u)
    (new : ObjOk X.prog X.w (upd H x o) h' x o) : Inv X pins σ (upd H x o) { s with heap := h', toks := t' } := I.un (Un.write mu he k heo) (I.hok.write mu he k heo new)
/-- forgetting slots, pins -/
theorem Inv.weak {σ' : List (Option V)} (I : Inv X pins σ H s) (hl : σ'.length = σ.length) (w : ∀ (i : Nat) v, σ'[i]? = some (some v) → σ[i]? = some (some v)) : Inv X pins σ' H s :=
  ⟨I.ok, I.os, I.bare, I.base, let ⟨m, hn, hl'⟩ := I.loc; ⟨m, hn, fun i x v e1 e2 e3 => hl' i x v e1 (w i v e2) e3⟩, I.cell, I.free, I.freeC, I.pin, I.hok, hl.trans I.len⟩
theorem Inv.pins_of {pins' : List (Addr × Obj)} (I : Inv X pins σ H s) (h : ∀ p ∈ pins', s.heap.get? p.1 = some p.2 ∧ H p.1 = none ∧ p.1 ≠ X.env.locals ∧ p.1 ∉ X.fs ∧ ∀ v, p.2.data ≠ .cell v) : Inv X pins' σ H s :=
  ⟨I.ok, I.os, I.bare, I.base, I.loc, I.cell, I.free, I.freeC, fun p hp => (List.mem_append.mp hp).elim (fun z => I.pin p (List.mem_append_left _ z)) (h p), I.hok, I.len⟩

theorem nodup_ix {N : List Str} (hN : N.Nodup) {i j : Nat} {x : Str} (a : N[i]? = some x) (b : N[j]? = some x) : i = j := by
  obtain ⟨h1, e1⟩ := List.getElem?_eq_some_iff.mp a
  obtain ⟨h2, e2⟩ := List.getElem?_eq_some_iff.mp b
  exact (List.getElem_inj hN).mp (e1.trans e2.symm)

/-- a name is stored; what changed -/
theorem store_ok2 {M : Model} {A : Around} {E : Value → Shared → Prop} {i : Nat} {x : Str} {v : V} {u : Value} {Q : Unit → Shared → Prop} (I : Inv X pins σ H s) (hN : X.N.Nodup) (hi : X.N[i]? = some x) (hx : Loc X.env.scope x) (r : RelV v u)
    (h : ∀ s', Inv X pins (σ.set i (some v)) H s' → (∃ a, Heap.SameBut a s.heap s'.heap ∧ (a = X.env.locals ∨ X.env.cells.lookup x = some a)) → Q () s') (hf : X.fn x = true ∨ X.env.scope.names.lookup x = some .local := by first | exact .inl rfl | exact .inr rfl | assumption) : wpAny M A (storeName X.env x u) Q E s := by
  obtain ⟨m, hn, hl⟩ := id I.loc
  have hcls : (X.env.scope.kind == .class || (X.env.scope.kind == .module && X.env.locals != X.env.globals)) = false := by rw [I.ok.kind]; rfl
  have hiσ : i < σ.length := by rw [I.len]; exact (List.getElem?_eq_some_iff.mp hi).1
  have cne := I.cne
  have tracked : ∀ {a : Addr} {h' : Heap}, (∃ o, s.heap.get? a = some o ∧ H a = none) → Heap.SameBut a s.heap h' → HOk X.prog X.w H h' := fun {a h'} ha hs b ob e => by
    obtain ⟨_, _, hfree⟩ := ha
    refine (I.hok b ob e).stay (fun c w' hc q => (hs.2 c ?_).trans q) (fun _ q => q) fun _ _ q => q
    rintro rfl
    rcases hc with rfl | hc
    · rw [hfree] at e; cases e
    · rw [hfree] at hc; cases hc
  rcases hx with hk | hk
  · refine wpAny_storeName_local hk hn (fun h' hn' hs => ?_) hcls
    obtain ⟨oL, _, _, hoL, _⟩ := id hn
    refine h _ ⟨I.ok, I.os, I.bare, ⟨fun b o e n hb hx => ?_, fun b o e n hb hx => ?_, I.base.free, fun b o e hx => ?_, I.base.tups, I.base.frzs, I.base.tbls⟩, ⟨_, hn', fun j y v' e1 e2 e3 => ?_⟩, fun y c e => ?_, I.free, I.freeC, fun p hp => ?_, tracked ⟨oL, hoL, I.free⟩ hs, by simpa using I.len⟩ ⟨_, hs, .inl rfl⟩
    · exact (hs.2 b (Nat.ne_of_lt (Nat.lt_of_lt_of_le (Heap.lt_size e) I.ok.above))).trans (I.base.keep b o e n hb hx)
    · obtain ⟨sl, e1⟩ := I.base.slot b o e n hb hx
      exact ⟨sl, (hs.2 b (Nat.ne_of_lt (Nat.lt_of_lt_of_le (Heap.lt_size e) I.ok.above))).trans e1⟩
    · obtain ⟨o', e1⟩ := I.base.there b o e hx
      exact ⟨o', (hs.2 b (Nat.ne_of_lt (Nat.lt_of_lt_of_le (Heap.lt_size e) I.ok.above))).trans e1⟩
    · by_cases hj : j = i
      · subst hj
        rw [hi] at e1; cases e1
        rw [List.getElem?_set_self hiσ] at e2
        cases e2
        exact ⟨u, r, .inl ⟨hk, by simp⟩⟩
      · rw [List.getElem?_set_ne (Ne.symm hj)] at e2
        obtain ⟨u', r', q⟩ := hl j y v' e1 e2 e3
        refine ⟨u', r', ?_⟩
        rcases q with ⟨k, e⟩ | ⟨k, c, e, z⟩
        · refine .inl ⟨k, ?_⟩
          have : y ≠ x := fun e => hj (nodup_ix hN e1 (e ▸ hi))
          simp [this, e]
        · exact .inr ⟨k, c, e, z.sameBut hs (cne y c e)⟩
    · obtain ⟨w', z⟩ := I.cell y c e
      exact ⟨w', z.sameBut hs (cne y c e)⟩
    · obtain ⟨e, n, ne, nf, d⟩ := I.pin p hp
      exact ⟨(hs.2 p.1 ne).trans e, n, ne, nf, d⟩
  · have hfn : X.fn x = true := by
      rcases hf with z | z
      · exact z
      · rw [z] at hk; cases hk
    obtain ⟨c, hc⟩ := I.ok.has x (.inl hk)
    obtain ⟨w', z⟩ := I.cell x c hc
    refine wpAny_storeName_cell I.ok.kind hk hc z (fun h' hc' hs => ?_)
    obtain ⟨oc, hoc, hocd⟩ := id z
    refine h { s with heap := h' } ⟨I.ok, I.os, I.bare, ⟨fun b o e n hb hx => ?_, fun b o e n hb hx => ?_, I.base.free, fun b o e hx => ?_, I.base.tups, I.base.frzs, I.base.tbls⟩, ⟨m, hn.sameBut hs (Ne.symm (cne x c hc)), fun j y v' e1 e2 e3 => ?_⟩, fun y c' e => ?_, I.free, I.freeC, fun p hp => ?_, tracked ⟨oc, hoc, I.freeC x c hc⟩ hs, by simpa using I.len⟩ ⟨c, hs, .inr hc⟩
    · exact (hs.2 b (Nat.ne_of_lt (Nat.lt_of_lt_of_le (Heap.lt_size e) (I.ok.cab x c hfn hc)))).trans (I.base.keep b o e n hb hx)
    · obtain ⟨sl, e1⟩ := I.base.slot b o e n hb hx
      exact ⟨sl, (hs.2 b (Nat.ne_of_lt (Nat.lt_of_lt_of_le (Heap.lt_size e) (I.ok.cab x c hfn hc)))).trans e1⟩
    · obtain ⟨o', e1⟩ := I.base.there b o e hx
      exact ⟨o', (hs.2 b (Nat.ne_of_lt (Nat.lt_of_lt_of_le (Heap.lt_size e) (I.ok.cab x c hfn hc)))).trans e1⟩
    · by_cases hj : j = i
      · subst hj
        rw [hi] at e1; cases e1
        rw [List.getElem?_set_self hiσ] at e2
        cases e2
        exact ⟨u, r, .inr ⟨.inl hk, c, hc, hc'⟩⟩
      · rw [List.getElem?_set_ne (Ne.symm hj)] at e2
        obtain ⟨u', r', q⟩ := hl j y v' e1 e2 e3
        refine ⟨u', r', ?_⟩
        rcases q with q | ⟨k, c', e, z'⟩
        · exact .inl q
        · refine .inr ⟨k, c', e, z'.sameBut hs ?_⟩
          rintro rfl
          exact hj (nodup_ix hN e1 (I.ok.inj _ _ _ e hc ▸ hi))
    · by_cases hcc : c' = c
      · subst hcc; exact ⟨_, hc'⟩
      · obtain ⟨w2, z2⟩ := I.cell y c' e
        exact ⟨w2, z2.sameBut hs hcc⟩
    · obtain ⟨e, n, ne, nf, d⟩ := I.pin p hp
      refine ⟨(hs.2 p.1 ?_).trans e, n, ne, nf, d⟩
      intro q
      rw [q, hoc] at e
      have q' : oc = p.2 := Option.some.inj e
      exact d w' (by rw [← q']; exact hocd)
theorem store_ok {M : Model} {A : Around} {E : Value → Shared → Prop} {i : Nat} {x : Str} {v : V} {u : Value} {Q : Unit → Shared → Prop} (I : Inv X pins σ H s) (hN : X.N.Nodup) (hi : X.N[i]? = some x) (hx : Loc X.env.scope x) (r : RelV v u)
    (h : ∀ s', Inv X pins (σ.set i (some v)) H s' → Q () s') (hf : X.fn x = true ∨ X.env.scope.names.lookup x = some .local := by first | exact .inl rfl | exact .inr rfl | assumption) : wpAny M A (storeName X.env x u) Q E s :=
  store_ok2 I hN hi hx r (fun s' I' _ => h s' I') hf
/-- behind a call or a block, the state as it is -/
theorem Inv.call' {s' : Shared} {ch : List Addr} (I : Inv X pins σ H s) (ho : s'.os = s.os) (u : Un (frs X.stack) ch H H' s.heap s'.heap) (hok : HOk X.prog X.w H' s'.heap) (hg : AllBare s'.gens)
    (hch : ∀ b ∈ ch, (b ∈ X.ex ∨ X.s_0.heap.objs.size ≤ b) ∧ b ≠ X.env.locals ∧ (∀ x c, X.env.cells.lookup x = some c → c ≠ b) ∧ ∀ p ∈ X.pn ++ pins, p.1 ≠ b) : Inv X pins σ H' s' := by
  obtain ⟨h', g', d', t', o'⟩ := s'
  have e : o' = s.os := ho
  subst e
  exact I.call (g' := g') (t' := t') (d' := d') u hok hg hch
end

/-- an exception: its class, its own dict's address (where it has one), the abstract heap behind it -/
abbrev XK := Value → Option Addr → Hp → Prop
abbrev St := List (Option V)
abbrev VK := V → Hp → Prop
/-- an expression's reading; a test's; an argument list's -/
abbrev TE := St → Hp → VK → Prop
abbrev TT := St → Hp → (Bool → Hp → Prop) → Prop
abbrev TA := St → Hp → (List V → Hp → Prop) → Prop
/-- what is wanted behind a statement -/
structure Ends where
  nx : St → Hp → Prop
  rt : VK
  bk : St → Hp → Prop := fun _ _ => False
  ct : St → Hp → Prop := fun _ _ => False
abbrev TS := Ends → St → Hp → Prop

def EP (X : Cx) (pins : List (Addr × Obj)) (σ : St) (Q : VK) (u : Value) (s' : Shared) : Prop := ∃ v H', Inv X pins σ H' s' ∧ RelV v u ∧ Q v H'
def TP (X : Cx) (pins : List (Addr × Obj)) (σ : St) (Q : Bool → Hp → Prop) (b : Bool) (s' : Shared) : Prop := ∃ H', Inv X pins σ H' s' ∧ Q b H'
def AP (X : Cx) (pins : List (Addr × Obj)) (σ : St) (Q : List V → Hp → Prop) (us : List Value) (s' : Shared) : Prop := ∃ vs H', Inv X pins σ H' s' ∧ Vals vs us ∧ Q vs H'
def SP (X : Cx) (pins : List (Addr × Obj)) (D : Ends) (f : Flow) (s' : Shared) : Prop :=
  match f with
  | .next => ∃ σ' H', Inv X pins σ' H' s' ∧ D.nx σ' H'
  | .brk => ∃ σ' H', Inv X pins σ' H' s' ∧ D.bk σ' H'
  | .cont => ∃ σ' H', Inv X pins σ' H' s' ∧ D.ct σ' H'
  | .ret u => ∃ v σ' H', Inv X pins σ' H' s' ∧ RelV v u ∧ D.rt v H'

def PE (X : Cx) (e : Expr) (t : TE) : Prop :=
  ∀ (pins : List (Addr × Obj)) (s : Shared) (σ : St) (H : Hp) (Q : VK), Inv X pins σ H s → t σ H Q → wpAny (model X.prog X.w) X.A (eval e X.env) (EP X pins σ Q) X.xe s
def PT (X : Cx) (e : Expr) (t : TT) : Prop :=
  ∀ (pins : List (Addr × Obj)) (s : Shared) (σ : St) (H : Hp) (Q : Bool → Hp → Prop), Inv X pins σ H s → t σ H Q → wpAny (model X.prog X.w) X.A (isTrue e X.env (eval e X.env)) (TP X pins σ Q) X.xe s
/-- a test whatever its 'whole' is (and, or) -/
def PW (X : Cx) (e : Expr) (t : TT) : Prop :=
  ∀ (whole : Sem Value) (pins : List (Addr × Obj)) (s : Shared) (σ : St) (H : Hp) (Q : Bool → Hp → Prop), Inv X pins σ H s → t σ H Q → wpAny (model X.prog X.w) X.A (isTrue e X.env whole) (TP X pins σ Q) X.xe s
theorem PW.pt {X : Cx} {e : Expr} {t : TT} (h : PW X e t) : PT X e t := h _
/-- an argument list (no star), from the left -/
def PA (X : Cx) (es : List Expr) (t : TA) : Prop :=
  ∀ (pos : Pos) (pins : List (Addr × Obj)) (s : Shared) (σ : St) (H : Hp) (Q : List V → Hp → Prop), Inv X pins σ H s → t σ H Q → wpAny (model X.prog X.w) X.A (spliced (backTo pos (starEach es X.env))) (AP X pins σ Q) X.xe s
def PS (X : Cx) (st : Stmt) (t : TS) : Prop :=
  ∀ (pins : List (Addr × Obj)) (s : Shared) (σ : St) (H : Hp) (D : Ends), Inv X pins σ H s → t D σ H → wpAny (model X.prog X.w) X.A (exec st X.env) (SP X pins D) X.xe s
def PSs (X : Cx) (st : List Stmt) (t : TS) : Prop :=
  ∀ (pins : List (Addr × Obj)) (s : Shared) (σ : St) (H : Hp) (D : Ends), Inv X pins σ H s → t D σ H → wpAny (model X.prog X.w) X.A (execs st X.env) (SP X pins D) X.xe s
/-- weaken the end -/
theorem thn {α : Type} {t : Sem α} {Q Q' : α → Shared → Prop} {M : Model} {A : Around} {E : Value → Shared → Prop} {s : Shared} (h : wpAny M A t Q E s) (hQ : ∀ a s, Q a s → Q' a s) : wpAny M A t Q' E s := wpAny_mono h hQ fun _ _ x => x
end L2

namespace L2
open PySem PySem.Spec PyProof.Rows
section
variable {X : Cx}

def tVar (i : Nat) : TE := fun σ H Q => ∃ v, σ[i]? = some (some v) ∧ Q v H
def tC (v : V) : TE := fun _ H Q => Q v H
theorem pe_var {i : Nat} {x : Str} {pos : Pos} (hN : X.N[i]? = some x) (hv : Vis X.env.scope x) (hd : (x == ("__debug__" : Str)) = false := by decide) (hcd : (x == ("__classdict__" : Str)) = false := by decide) : PE X (.Name x pos) (tVar i) := by
  intro pins s σ H Q I h
  obtain ⟨v, e, h⟩ := h
  obtain ⟨m, hn, hl⟩ := I.loc
  obtain ⟨u, r, l⟩ := hl i x v hN e hv
  have fin : EP X pins σ Q u s := ⟨v, H, I, r, h⟩
  rcases l with ⟨hk, hm⟩ | ⟨hk, c, hc, hcell⟩
  · exact wpAny_Name (wpAny_loadName_local I.ok.kind hk hn hm fin) hd
  · rcases hk with hk | hk
    · exact wpAny_Name (wpAny_loadName_cell I.ok.kind hk hc hcell fin) hd
    · exact wpAny_Name (wpAny_loadName_free I.ok.kind hk hc hcell fin hcd) hd
theorem pe_int {i j pos} : PE X (.Constant (.int i) j pos) (tC (.int i)) := fun _ _ _ H _ I h => wpAny_Constant_int ⟨.int i, H, I.tok _, ⟨_, rfl⟩, h⟩
/-- a global name of the def -/
def Gl (X : Cx) (x : Str) : Prop := X.env.kindOf x = some .globalImplicit
theorem ld_glob {E : Value → Shared → Prop} {pins : List (Addr × Obj)} {s : Shared} {σ : St} {H : Hp} {x : Str} {u : Value} {pos : Pos} {Q : Value → Shared → Prop} (I : Inv X pins σ H s) (hg : Gl X x) (hm : X.mg x = some u) (h : Q u s)
    (hd : (x == ("__debug__" : Str)) = false := by decide) : wpAny (model X.prog X.w) X.A (eval (.Name x pos) X.env) Q E s :=
  Calls.Name_function_global I.ok.kind hg (Calls.loadGlobal_global (by rw [I.ok.glob]; exact I.mod.glob.keeps I.bk) hm h) hd
theorem ld_blt {E : Value → Shared → Prop} {pins : List (Addr × Obj)} {s : Shared} {σ : St} {H : Hp} {x : Str} {u : Value} {pos : Pos} {Q : Value → Shared → Prop} (I : Inv X pins σ H s) (hg : Gl X x) (hm : X.mg x = none) (hv : bootBuiltins x = some u) (h : Q u s)
    (hn : x ≠ "__name__" := by decide) (hd : (x == ("__debug__" : Str)) = false := by decide) : wpAny (model X.prog X.w) X.A (eval (.Name x pos) X.env) Q E s := by
  obtain ⟨mb, h1, h2⟩ := I.mod.blt
  exact Calls.Name_function_global I.ok.kind hg (Calls.loadGlobal_builtin (by rw [I.ok.glob]; exact I.mod.glob.keeps I.bk) hm (by rw [I.ok.blt]; exact h1.keeps I.bk) ((h2 x hn).trans hv) h) hd
/-- a module's constant, a class, a function, as a value -/
theorem pe_glob {x : Str} {v : V} {u : Value} {pos : Pos} (hg : Gl X x) (hm : X.mg x = some u) (r : RelV v u) (hd : (x == ("__debug__" : Str)) = false := by decide) : PE X (.Name x pos) (tC v) :=
  fun _ _ _ H _ I h => ld_glob I hg hm ⟨v, H, I, r, h⟩ hd
variable {a b : Expr} {ta tb : TE} {pos : Pos}
/-- a comparison as a value, as a test -/
def tB (t : TE) : TT := fun σ H Q => t σ H fun x H1 => ∃ c, x = .bl c ∧ Q c H1
/-- an expression whose value is a bool, as a test -/
theorem pt_val {e : Expr} {t : TE} (h : PE X e t) (he : ∀ whole, isTrue e X.env whole = (do let v ← whole; standAt e.pos; holding [v] (truthy v)) := by intro _; rfl) : PT X e (tB t) := by
  intro pins s σ H Q I hw
  refine isTrue_plain (thn (h pins s σ H _ I hw) fun v s1 ⟨x, H1, I1, r1, q1⟩ => ?_) (he _)
  obtain ⟨d, rfl, q⟩ := q1
  cases r1
  exact wpAny_truthy_bool ⟨H1, I1, q⟩

variable {tA tB' : TT} {rest : List Expr}
def tOr (t u : TT) : TT := fun σ H Q => t σ H fun c H1 => if c = true then Q true H1 else u σ H1 Q
def tNot (t : TT) : TT := fun σ H Q => t σ H fun c H1 => Q (!c) H1
theorem pw_or1 (ha : PT X a tA) : PW X (.BoolOp .Or [a] pos) tA := by
  intro wh pins s σ H Q I h
  refine isTrue_or (thn (ha pins s σ H Q I h) fun c s1 e => ?_)
  cases c with
  | false => exact isTrue_or_nil e
  | true => exact e
theorem pw_or (ha : PT X a tA) (hb : PW X (.BoolOp .Or (b :: rest) pos) tB') : PW X (.BoolOp .Or (a :: b :: rest) pos) (tOr tA tB') := by
  intro wh pins s σ H Q I h
  refine isTrue_or (thn (ha pins s σ H _ I h) fun c s1 ⟨H1, I1, q1⟩ => ?_)
  cases c with
  | true => exact ⟨H1, I1, q1⟩
  | false => exact hb wh pins s1 σ H1 Q I1 q1
theorem pt_not (ha : PT X a tA) : PT X (.UnaryOp .Not a pos) (tNot tA) := by
  intro pins s σ H Q I h
  exact isTrue_not (ha pins s σ H (fun c H1 => Q (!c) H1) I h)
end
end L2

namespace L2
open PySem PySem.Spec PyProof.Rows

def SqL (K : PySem.W.Frag) (H : Hp) (a : Addr) (xs : List V) : Prop :=
  Rd H a (.lst xs) ∨
    ∃ (o : Obj) (its : Array Value) (n : Nat), K.lookup a = some o ∧ o.cls = .type "list" ∧ o.dict = none ∧ o.data = .seq its n ∧ its.size ≤ sizeLine ∧ Vals xs its.toList
def SqT (K : PySem.W.Frag) (H : Hp) (a : Addr) (xs : List V) : Prop :=
  Rd H a (.tup xs) ∨
    ∃ (o : Obj) (its : Array Value) (n : Nat), K.lookup a = some o ∧ o.cls = .type "tuple" ∧ o.data = .seq its n ∧ its.size ≤ sizeLine ∧ Vals xs its.toList
def absV : Value → Option V
  | .none => some .non
  | .bool b => some (.bl b)
  | .int i _ => some (.int i)
  | .str x _ => some (.str x)
  | .bytes b _ => some (.byt b)
  | .float b _ => some (.flt b)
  | .ref a => some (.ref a)
  | .type n => some (.ty n)
  | _ => none
theorem RelV.abs {x : V} {u : Value} (r : RelV x u) : absV u = some x := by
  cases x with
  | non => cases r; rfl
  | bl _ => cases r; rfl
  | int _ => obtain ⟨t, rfl⟩ := r; rfl
  | str _ => obtain ⟨t, rfl⟩ := r; rfl
  | byt _ => obtain ⟨t, rfl⟩ := r; rfl
  | flt _ => obtain ⟨t, rfl⟩ := r; rfl
  | ref _ => cases r; rfl
  | ty _ => cases r; rfl
theorem RelV.inj {x y : V} {u : Value} (r : RelV x u) (q : RelV y u) : x = y := Option.some.inj (r.abs.symm.trans q.abs)
theorem Vals.inj : ∀ {xs ys : List V} {us : List Value}, Vals xs us → Vals ys us → xs = ys
  | _, _, _, .nil, .nil => rfl
  | _, _, _, .cons r t, .cons r' t' => by rw [r.inj r', Vals.inj t t']
section
variable {X : Cx} {pins : List (Addr × Obj)} {σ : St} {H : Hp} {s : Shared} {a : Addr} {xs ys : List V}
theorem SqL.of {K : PySem.W.Frag} (h : H a = some (.lst xs)) : SqL K H a xs := .inl (.inl h)
theorem Inv.list (I : Inv X pins σ H s) (h : SqL X.K H a xs) : ∃ its : List Value, Vals xs its ∧ PlainL s.heap a its.toArray ∧ xs.length ≤ sizeLine := by
  rcases h with h | ⟨o, its, n, hk, hc, hd, hs, hz, r⟩
  · obtain ⟨z, its, n, r, e⟩ := h.ok I.hok
    exact ⟨its, r, ⟨_, n, e, rfl, rfl, rfl⟩, z⟩
  · refine ⟨its.toList, r, ⟨o, n, I.kIn a o hk, hc, hd, by simpa using hs⟩, ?_⟩
    have e := r.length
    simp only [Array.length_toList] at e
    omega
theorem Inv.tuple (I : Inv X pins σ H s) (h : SqT X.K H a xs) : ∃ its : List Value, Vals xs its ∧ IsTup s.heap a its.toArray ∧ xs.length ≤ sizeLine := by
  rcases h with h | ⟨o, its, n, hk, hc, hs, hz, r⟩
  · obtain ⟨z, its, r, p⟩ := h.ok I.hok
    exact ⟨its, r, p, z⟩
  · refine ⟨its.toList, r, ⟨o, I.kIn a o hk, hc, n, by simpa using hs⟩, ?_⟩
    have e := r.length
    simp only [Array.length_toList] at e
    omega
theorem Inv.list_inj (I : Inv X pins σ H s) (h : SqL X.K H a xs) (h' : SqL X.K H a ys) : xs = ys := by
  obtain ⟨its, r, ⟨o, n, e, _, _, d⟩, _⟩ := I.list h
  obtain ⟨its', r', ⟨o', n', e', _, _, d'⟩, _⟩ := I.list h'
  rw [e] at e'; cases e'
  rw [d] at d'
  injection d' with d1 _
  have : its = its' := by simpa using congrArg Array.toList d1
  subst this
  exact r.inj r'
end

section
variable {X : Cx} {pins : List (Addr × Obj)} {σ : St} {H : Hp} {s : Shared} {E : Value → Shared → Prop}
end

section
variable {X : Cx} {st : Stmt} {rest : List Stmt} {t u : TS} {e : Expr} {te : TE} {pos : Pos}
def tNext : TS := fun D σ H => D.nx σ H
def tSeq (t u : TS) : TS := fun D σ H => t { D with nx := u D } σ H
theorem pss_nil : PSs X [] tNext := fun _ _ σ H _ I h => wpAny_execs_nil ⟨σ, H, I, h⟩
theorem pss_cons (h1 : PS X st t) (h2 : PSs X rest u) : PSs X (st :: rest) (tSeq t u) := by
  intro pins s σ H D I h
  refine wpAny_execs_cons (thn (h1 pins s σ H { D with nx := u D } I h) fun f s1 q => ?_)
  cases f with
  | next =>
    obtain ⟨σ', H', I', q⟩ := q
    exact h2 pins s1 σ' H' D I' q
  | ret v => exact q
  | brk => exact q
  | cont => exact q
theorem pss_one (h1 : PS X st t) : PSs X [st] t := by
  intro pins s σ H D I h
  refine wpAny_execs_cons (thn (h1 pins s σ H D I h) fun f s1 q => ?_)
  cases f with
  | next => exact wpAny_execs_nil q
  | ret v => exact q
  | brk => exact q
  | cont => exact q
/-- in a def's body nothing is shown -/
theorem Inv.quiet {pins : List (Addr × Obj)} {σ : St} {H : Hp} {s : Shared} (I : Inv X pins σ H s) : interactive X.env = false := by simp [interactive, I.ok.kind]
/-- an expression whose value is dropped -/
def tDrop (te : TE) : TS := fun D σ H => te σ H fun _ H1 => D.nx σ H1
theorem ps_expr (he : PE X e te) (hs : swapsWith e none pos.line X.env = pure false := by rfl) : PS X (.Expr e pos) (tDrop te) := by
  intro pins s σ H D I h
  exact wpAny_Expr_any (thn (he pins s σ H _ I h) fun v s1 ⟨x, H1, I1, r1, q1⟩ => ⟨σ, H1, I1, q1⟩) I.quiet hs
def tRet (te : TE) : TS := fun D σ H => te σ H D.rt
theorem ps_ret (he : PE X e te) : PS X (.Return (some e) pos) (tRet te) := by
  intro pins s σ H D I h
  exact wpAny_Return_some (thn (he pins s σ H _ I h) fun v s1 ⟨x, H1, I1, r1, q1⟩ => ⟨x, σ, H1, I1, r1, q1⟩)
def tIfS (c : TT) (t u : TS) : TS := fun D σ H => c σ H fun b H1 => if b = true then t D σ H1 else u D σ H1
theorem ps_if {c : Expr} {a b : List Stmt} {tc : TT} (hc : PT X c tc) (ha : PSs X a t) (hb : PSs X b u) : PS X (.If c a b pos) (tIfS tc t u) := by
  intro pins s σ H D I h
  refine wpAny_If (thn (hc pins s σ H _ I h) fun d s1 ⟨H1, I1, q1⟩ => ?_)
  cases d with
  | true => exact ha pins s1 σ H1 D I1 q1
  | false => exact hb pins s1 σ H1 D I1 q1
end

abbrev TG := V → St → Hp → (St → Hp → Prop) → Prop
def PG (X : Cx) (target : Expr) (t : TG) : Prop :=
  ∀ (pins : List (Addr × Obj)) (s : Shared) (σ : St) (H : Hp) (v : V) (u : Value) (Q : St → Hp → Prop), Inv X pins σ H s → RelV v u → t v σ H Q →
    wpAny (model X.prog X.w) X.A (assign target X.env u) (fun _ s' => ∃ σ' H', Inv X pins σ' H' s' ∧ Q σ' H') X.xe s
section
variable {X : Cx} {pos : Pos}
def gName (i : Nat) : TG := fun v σ H Q => Q (σ.set i (some v)) H
theorem pg_name {i : Nat} {x : Str} (hN : X.N.Nodup) (hi : X.N[i]? = some x) (hx : Loc X.env.scope x) (hf : X.fn x = true ∨ X.env.scope.names.lookup x = some .local := by first | exact .inl rfl | exact .inr rfl | assumption) : PG X (.Name x pos) (gName i) := by
  intro pins s σ H v u Q I r h
  exact wpAny_assign_Name (store_ok I hN hi hx r (fun s' I' => ⟨_, H, I', h⟩) hf)
/-- target = value -/
def tAsg (te : TE) (g : TG) : TS := fun D σ H => te σ H fun x H1 => g x σ H1 D.nx
/-- name = value -/
theorem ps_set {i : Nat} {x : Str} {e : Expr} {te : TE} {pos' : Pos} (hN : X.N.Nodup) (hi : X.N[i]? = some x) (hx : Loc X.env.scope x) (he : PE X e te) (hs : swapsWith e (some (.Name x pos')) pos.line X.env = pure false := by rfl) (hf : X.fn x = true ∨ X.env.scope.names.lookup x = some .local := by first | exact .inl rfl | exact .inr rfl | assumption) :
    PS X (.Assign [.Name x pos'] e pos) (tAsg te (gName i)) := by
  intro pins s σ H D I h
  refine wpAny_Assign_Name (thn (he pins s σ H _ I h) fun v s1 ⟨y, H1, I1, r1, q1⟩ => ?_) hs
  exact store_ok I1 hN hi hx r1 (fun s2 I2 => ⟨_, H1, I2, q1⟩) hf
end

section
variable {X : Cx} {pos : Pos}
end

/-- at turn i: it yields x (the heap may grow), or it stops -/
structure It where
  go : Nat → Hp → Prop
  yld : Nat → Hp → V → Hp → Prop
  stop : Nat → Hp → Prop
/-- the iterator's own objects may turn: they are not the frame's, not pinned, younger than the entry (or a comprehension's own) -/
def FpOk (X : Cx) (pins : List (Addr × Obj)) (H : Hp) (b : Addr) : Prop :=
  H b = none ∧ b ≠ X.env.locals ∧ b ∉ X.fs ∧ (b ∈ X.ex ∨ X.s_0.heap.objs.size ≤ b) ∧ (∀ x c, X.env.cells.lookup x = some c → c ≠ b) ∧ ∀ p ∈ X.pn ++ pins, p.1 ≠ b
theorem Inv.fpOk {X : Cx} {pins : List (Addr × Obj)} {σ : St} {H H' : Hp} {s : Shared} {b : Addr} (I : Inv X pins σ H s) (hb : s.heap.objs.size ≤ b) (hn : H' b = none) : FpOk X pins H' b := by
  refine ⟨hn, Nat.ne_of_gt (Nat.lt_of_lt_of_le I.lt hb), I.nofs hb, .inr (Nat.le_trans I.sz hb), fun x c e z => ?_, fun p hp z => ?_⟩
  · obtain ⟨v, q⟩ := I.cell x c e
    exact absurd (Nat.lt_of_lt_of_le q.lt (by rw [z]; exact hb)) (Nat.lt_irrefl _)
  · exact absurd (Nat.lt_of_lt_of_le (Heap.lt_size (I.pin p hp).1) (by rw [z]; exact hb)) (Nat.lt_irrefl _)
structure Turn (P : Program) (w : World) (K : PySem.W.Frag) (tg : Expr) (J : It) (fp : List Addr) (it : Addr) (tn : Nat → Heap → Prop) : Prop where
  mem : it ∈ fp
  obj : ∀ i h, tn i h → ∀ b ∈ fp, ∃ o, h.get? b = some o ∧ ∀ v, o.data ≠ .cell v
  keep : ∀ i h h', tn i h → (∀ b ∈ fp, ∀ o, h.get? b = some o → h'.get? b = some o) → tn i h'
  item : ∀ (X : Cx), X.prog = P → X.w = w → X.K = K → X.calm = true → ∀ (i : Nat) (pins : List (Addr × Obj)) (s : Shared) (σ : St) (H : Hp) (E : Value → Shared → Prop), Inv X pins σ H s → (∀ b ∈ fp, FpOk X pins H b) → tn i s.heap → J.go i H →
    wpAny (model P w) X.A (pyNext (.ref it)) (fun r s1 => ∃ u, r = some u ∧
      wpAny (model P w) X.A (letOwnedTupleGo tg (.ref it) u) (fun _ s2 => ∃ x H', Inv X pins σ H' s2 ∧ RelV x u ∧ J.yld i H x H' ∧ tn (i + 1) s2.heap ∧ ∀ b ∈ fp, H' b = none) E s1) E s
  done : ∀ (X : Cx), X.prog = P → X.w = w → X.K = K → X.calm = true → ∀ (i : Nat) (pins : List (Addr × Obj)) (s : Shared) (σ : St) (H : Hp) (E : Value → Shared → Prop), Inv X pins σ H s → (∀ b ∈ fp, FpOk X pins H b) → tn i s.heap → J.stop i H →
    wpAny (model P w) X.A (pyNext (.ref it)) (fun r s1 => r = none ∧ Inv X pins σ H s1) E s
  self : ∀ (A : Around) (i : Nat) (s : Shared) (Q : Value → Shared → Prop) (E : Value → Shared → Prop), tn i s.heap → Q (.ref it) s → wpAny (model P w) A (pyIter (.ref it)) Q E s
abbrev TI := St → Hp → (It → Hp → Prop) → Prop
/-- an iterator has come -/
def PIE (X : Cx) (pins : List (Addr × Obj)) (σ : St) (tg : Expr) (R : It → Hp → Prop) (itv : Value) (s2 : Shared) : Prop :=
  ∃ (it : Addr) (fp : List Addr) (tn : Nat → Heap → Prop) (J : It) (H' : Hp), itv = .ref it ∧ Inv X pins σ H' s2 ∧ Turn X.prog X.w X.K tg J fp it tn ∧ tn 0 s2.heap ∧ (∀ b ∈ fp, FpOk X pins H' b) ∧ R J H'
def PI (X : Cx) (tg iter : Expr) (wi : TI) : Prop :=
  ∀ (pins : List (Addr × Obj)) (s : Shared) (σ : St) (H : Hp) (R : It → Hp → Prop), Inv X pins σ H s → wi σ H R →
    wpAny (model X.prog X.w) X.A (eval iter X.env) (fun v s1 => wpAny (model X.prog X.w) X.A (pyIter v) (PIE X pins σ tg R) X.xe s1) X.xe s

/-- the step ahead of the store is nothing for an iterator that keeps no tuple -/
theorem go_of {M : Model} {A : Around} {E : Value → Shared → Prop} {s : Shared} {tg : Expr} {it : Addr} {u : Value} {o : Obj} {n : String} {vs : Array Value} {Q : Unit → Shared → Prop} (ho : s.heap.get? it = some o) (hc : o.cls = .type n) (hd : o.data = .fields vs)
    (hn : ["enumerate", "zip", "dict_itemiterator", "dict_reverseitemiterator", "odict_iterator", "itertools.zip_longest", "itertools.pairwise"].contains n = false) (hQ : Q () s) : wpAny M A (letOwnedTupleGo tg (.ref it) u) Q E s := by
  unfold letOwnedTupleGo
  cases tg <;> first
    | exact wpAny_pure hQ
    | (cases u <;> first
        | exact wpAny_pure hQ
        | (refine wpAny_bind (wpAny_load ho ?_)
           rw [hc, hd]
           show wpAny M A (if (["enumerate", "zip", "dict_itemiterator", "dict_reverseitemiterator", "odict_iterator", "itertools.zip_longest", "itertools.pairwise"].contains n && vs[0]? == some (rawInt _)) = true then _ else _) Q E s
           rw [if_neg (by intro h; rw [hn, Bool.false_and] at h; cases h)]
           exact wpAny_pure hQ))

/-- the list at a, as it stands at each turn (a loop may append to it) -/
def Itl (K : PySem.W.Frag) (a : Addr) : It :=
  ⟨fun i H => ∃ xs x, SqL K H a xs ∧ xs[i]? = some x, fun i H x H' => H' = H ∧ ∀ xs, SqL K H a xs → xs[i]? = some x, fun i H => ∃ xs, SqL K H a xs ∧ xs.length ≤ i⟩
theorem turn_list {P : Program} {w : World} {K : PySem.W.Frag} {tg : Expr} (a it : Addr) : Turn P w K tg (Itl K a) [it] it (fun i h => h.IsListIter it a i) where
  mem := by simp
  obj := fun i h st b hb => by
    have e : b = it := by simpa using hb
    subst e
    obtain ⟨o, e, c, d⟩ := st
    exact ⟨o, e, fun v z => by rw [d] at z; cases z⟩
  keep := fun i h h' st k => st.at fun o e => k it (by simp) o e
  item := by
    intro X hP hw hK hc i pins s σ H E I hf st hg
    subst hP hw hK
    obtain ⟨xs, x, hq, hx⟩ := hg
    obtain ⟨its, rv, p, hz⟩ := I.list hq
    obtain ⟨u, hu, ru⟩ := rv.get hx
    obtain ⟨f0, f1, f2, f3, f4, f5⟩ := hf it (by simp)
    refine wpAny_pyNext_list_item st p.isList (x := u) (by simpa using hu) fun h' st' sb => ?_
    have I1 : Inv X pins σ H { s with heap := h' } := I.turned (t' := s.toks) (fun b o hb e => (sb.2 b hb).trans e) f0 f1 f3 f4 f5
    obtain ⟨o, e, c, d⟩ := id st'
    exact ⟨u, rfl, go_of (s := { s with heap := h' }) e c d (by decide) ⟨x, H, I1, ru, ⟨rfl, fun ys hy => by rw [I.list_inj hy hq]; exact hx⟩, st', fun b hb => (hf b hb).1⟩⟩
  done := by
    intro X hP hw hK hc i pins s σ H E I hf st hg
    subst hP hw hK
    obtain ⟨xs, hq, hx⟩ := hg
    obtain ⟨its, rv, p, hz⟩ := I.list hq
    obtain ⟨f0, f1, f2, f3, f4, f5⟩ := hf it (by simp)
    have hl := rv.length
    exact wpAny_pyNext_list_end (I.ok.hd hc) st p.isList (by simp; omega) fun h' eb => ⟨rfl, I.turned (t' := s.toks) (fun b o hb e => eb b o hb e) f0 f1 f3 f4 f5⟩
  self := fun _ _ _ _ _ st h => wpAny_pyIter_listiter st h
end L2

namespace L2
open PySem PySem.Spec PyProof.Rows
section
variable {X : Cx} {tg : Expr}
def iList (K : PySem.W.Frag) (tl : TE) : TI := fun σ H R => tl σ H fun x H1 => ∃ a, x = .ref a ∧ (∃ xs, SqL K H1 a xs) ∧ R (Itl K a) H1
theorem pi_list {l : Expr} {tl : TE} (hl : PE X l tl) : PI X tg l (iList X.K tl) := by
  intro pins s σ H R I h
  refine thn (hl pins s σ H _ I h) fun v s1 ⟨x, H1, I1, r1, q1⟩ => ?_
  obtain ⟨a, e, ⟨xs, hq⟩, q⟩ := q1
  subst e
  cases r1
  obtain ⟨its, rv, p, hz⟩ := I1.list hq
  refine wpAny_pyIter_list p.isList ?_
  refine ⟨s1.heap.objs.size, [s1.heap.objs.size], _, _, H1, rfl, I1.kept (t' := s1.toks) fun b o e => Heap.get?_push_of_some _ e, turn_list a _, ⟨_, Heap.get?_push_size _ rfl, rfl, rfl⟩, fun b hb => ?_, q⟩
  have e : b = s1.heap.objs.size := by simpa using hb
  subst e
  exact I1.fpOk (Nat.le_refl _) (I1.hok.fresh (Nat.le_refl _))
/-- W: the invariant by the turn and a measure; N: what the body is to reach -/
def tFor (wi : TI) (g : TG) (tb : TS) : TS := fun D σ H => wi σ H fun J H1 => ∃ W : Nat → Nat → St → Hp → Prop, (∃ m, W 0 m σ H1) ∧ ∀ i m σ H, W i m σ H →
  (J.stop i H ∧ D.nx σ H) ∨ (J.go i H ∧ ∃ N : St → Hp → Prop, (∀ σ' H', N σ' H' → ∃ m', m' < m ∧ W (i + 1) m' σ' H') ∧ ∀ x H', J.yld i H x H' → g x σ H' fun σ2 H2 => tb { D with nx := N, ct := N, bk := D.nx } σ2 H2)
/-- the records at fp as they stand -/
def pinsAt (fp : List Addr) (h : Heap) : List (Addr × Obj) := fp.filterMap fun b => (h.get? b).map fun o => (b, o)
theorem mem_pinsAt {fp : List Addr} {h : Heap} {b : Addr} {o : Obj} (hb : b ∈ fp) (e : h.get? b = some o) : (b, o) ∈ pinsAt fp h := List.mem_filterMap.mpr ⟨b, hb, by rw [e]; rfl⟩
theorem of_pinsAt {fp : List Addr} {h : Heap} {p : Addr × Obj} (hp : p ∈ pinsAt fp h) : p.1 ∈ fp ∧ h.get? p.1 = some p.2 := by
  obtain ⟨b, hb, e⟩ := List.mem_filterMap.mp hp
  cases q : h.get? b with
  | none => rw [q] at e; cases e
  | some o =>
    rw [q] at e
    have e' : (b, o) = p := Option.some.inj e
    subst e'
    exact ⟨hb, q⟩
theorem Inv.pinned {pins : List (Addr × Obj)} {σ : St} {H : Hp} {s : Shared} {fp : List Addr} (I : Inv X pins σ H s) (hf : ∀ b ∈ fp, FpOk X pins H b) (ho : ∀ b ∈ fp, ∃ o, s.heap.get? b = some o ∧ ∀ v, o.data ≠ .cell v) : Inv X (pins ++ pinsAt fp s.heap) σ H s :=
  I.pins_of fun p hp => (List.mem_append.mp hp).elim (fun z => I.pin p (List.mem_append_right _ z)) fun z => by
    obtain ⟨hb, e⟩ := of_pinsAt z
    obtain ⟨f0, f1, f2, _⟩ := hf p.1 hb
    obtain ⟨o, e', d⟩ := ho p.1 hb
    rw [e] at e'; cases e'
    exact ⟨e, f0, f1, f2, d⟩
theorem Inv.unpinned {pins pl : List (Addr × Obj)} {σ : St} {H : Hp} {s : Shared} (I : Inv X (pins ++ pl) σ H s) : Inv X pins σ H s := I.pins_of fun p hp => I.pin p (List.mem_append_right _ (List.mem_append_left _ hp))
theorem ps_for {iter : Expr} {body : List Stmt} {wi : TI} {g : TG} {tb : TS} {pos : Pos} (hp : PassesOwn (model X.prog X.w) X.A X.env X.xe) (hc : X.calm = true) (hi : PI X tg iter wi) (hg : PG X tg g) (hb : PSs X body tb)
    (hs : ∀ x, foldedSetIterable iter X.env x = pure x := by intro _; rfl) : PS X (.For tg iter body [] pos) (tFor wi g tb) := by
  intro pins s σ H D I h
  refine wpAny_For (thn (hi pins s σ H _ I h) fun v s1 h1 => thn h1 fun itv s2 h2 => ?_) hs
  obtain ⟨it, fp, tn, J, H2, e, I2, T, st2, f2, W, ⟨m0, w0⟩, turn⟩ := h2
  subst e
  -- what stays true of the iterator's objects through the loop
  have stat : ∀ {H' : Hp}, (∀ b ∈ fp, H' b = none) → ∀ b ∈ fp, FpOk X pins H' b := fun hn b hb => ⟨hn b hb, (f2 b hb).2⟩
  refine codeAny_forLoop_any (fun n s' => ∃ i σ' H', Inv X pins σ' H' s' ∧ tn i s'.heap ∧ (∀ b ∈ fp, H' b = none) ∧ W i n σ' H') ?_ m0 ⟨0, σ, H2, I2, st2, fun b hb => (f2 b hb).1, w0⟩
  rintro n s3 ⟨i, σ3, H3, I3, st3, fr3, w3⟩
  rcases turn i n σ3 H3 w3 with ⟨stop, qn⟩ | ⟨go, N, hN, step⟩
  · refine wpAny_passesOwn hp (thn (T.done X rfl rfl rfl hc i pins s3 σ3 H3 X.xe I3 (stat fr3) st3 stop) fun r s4 ⟨hr, I4⟩ => ?_)
    subst hr
    exact wpAny_execs_nil ⟨σ3, H3, I4, qn⟩
  · refine wpAny_passesOwn hp (thn (T.item X rfl rfl rfl hc i pins s3 σ3 H3 X.xe I3 (stat fr3) st3 go) fun r s4 ⟨u, hr, h4⟩ => ?_)
    subst hr
    refine wpAny_passesOwn hp (thn h4 fun _ s5 ⟨x, H5, I5, r5, y5, st5, fr5⟩ => ?_)
    have I5' := I5.pinned (stat fr5) (T.obj _ _ st5)
    refine wpAny_passesOwn hp (thn (hg _ s5 σ3 H5 x u _ I5' r5 (step x H5 y5)) fun _ s6 ⟨σ6, H6, I6, q6⟩ => ?_)
    refine wpAny_passesOwn hp (thn (hb _ s6 σ6 H6 _ I6 q6) fun f s7 q7 => ?_)
    have again : ∀ {σ7 : St} {H7 : Hp}, Inv X (pins ++ pinsAt fp s5.heap) σ7 H7 s7 → N σ7 H7 → ∃ m, m < n ∧ ∃ i σ' H', Inv X pins σ' H' s7 ∧ tn i s7.heap ∧ (∀ b ∈ fp, H' b = none) ∧ W i m σ' H' := fun {σ7 H7} I7 n7 => by
      obtain ⟨m', hm, w7⟩ := hN σ7 H7 n7
      refine ⟨m', hm, i + 1, σ7, H7, I7.unpinned, T.keep _ _ _ st5 fun b hb o e => (I7.pin (b, o) (List.mem_append_right _ (List.mem_append_right _ (mem_pinsAt hb e)))).1, fun b hb => ?_, w7⟩
      obtain ⟨o, e, d⟩ := T.obj _ _ st5 b hb
      exact (I7.pin (b, o) (List.mem_append_right _ (List.mem_append_right _ (mem_pinsAt hb e)))).2.1
    cases f with
    | next => obtain ⟨σ7, H7, I7, n7⟩ := q7; exact again I7 n7
    | cont => obtain ⟨σ7, H7, I7, n7⟩ := q7; exact again I7 n7
    | brk => obtain ⟨σ7, H7, I7, q7⟩ := q7; exact ⟨σ7, H7, I7.unpinned, q7⟩
    | ret v => obtain ⟨x7, σ7, H7, I7, r7, q7⟩ := q7; exact ⟨x7, σ7, H7, I7.unpinned, r7, q7⟩
end

/-- over a list that the body leaves as it is -/
theorem for_list {K : PySem.W.Frag} {a : Addr} {xs : List V} {g : TG} {tb : TS} {D : Ends} {σ : St} {H : Hp} (Pv : Nat → St → Hp → Prop) (h0 : Pv 0 σ H) (hl : ∀ i σ H, i ≤ xs.length → Pv i σ H → SqL K H a xs)
    (hs : ∀ i x σ H, xs[i]? = some x → Pv i σ H → g x σ H fun σ2 H2 => tb { D with nx := Pv (i + 1), ct := Pv (i + 1), bk := D.nx } σ2 H2) (hd : ∀ σ H, Pv xs.length σ H → D.nx σ H) :
    ∃ W : Nat → Nat → St → Hp → Prop, (∃ m, W 0 m σ H) ∧ ∀ i m σ H, W i m σ H →
      ((Itl K a).stop i H ∧ D.nx σ H) ∨ ((Itl K a).go i H ∧ ∃ N : St → Hp → Prop, (∀ σ' H', N σ' H' → ∃ m', m' < m ∧ W (i + 1) m' σ' H') ∧ ∀ x H', (Itl K a).yld i H x H' → g x σ H' fun σ2 H2 => tb { D with nx := N, ct := N, bk := D.nx } σ2 H2) := by
  refine ⟨fun i m σ H => m = xs.length - i ∧ i ≤ xs.length ∧ Pv i σ H, ⟨xs.length, by simp, Nat.zero_le _, h0⟩, ?_⟩
  rintro i m σ H ⟨rfl, hi, p⟩
  have q := hl i σ H hi p
  by_cases hlt : i < xs.length
  · refine .inr ⟨⟨xs, xs[i], q, by simp [hlt]⟩, Pv (i + 1), fun σ' H' p' => ⟨xs.length - (i + 1), by omega, rfl, hlt, p'⟩, fun x H' y => ?_⟩
    obtain ⟨e, y⟩ := y
    subst e
    exact hs i x σ _ (y xs q) p
  · have e : i = xs.length := by omega
    subst e
    exact .inl ⟨⟨xs, q, Nat.le_refl _⟩, hd σ H p⟩
end L2

namespace L2
open PySem PySem.Spec PyProof.Rows

abbrev R2 := V → V → Hp → VK → Prop
/-- a two-place operation on values: f is binaryOp op, inplaceOp op or compareOp op -/
def OpR (X : Cx) (f : Value → Value → Sem Value) (r : R2) : Prop :=
  ∀ (pins : List (Addr × Obj)) (s : Shared) (σ : St) (H : Hp) (x y : V) (v u : Value) (Q : VK), Inv X pins σ H s → RelV x v → RelV y u → r x y H Q →
    wpAny (model X.prog X.w) X.A (f v u) (EP X pins σ Q) X.xe s
/-- a one-place operation -/
def UnR (X : Cx) (f : Value → Sem Value) (r : V → Hp → VK → Prop) : Prop :=
  ∀ (pins : List (Addr × Obj)) (s : Shared) (σ : St) (H : Hp) (x : V) (v : Value) (Q : VK), Inv X pins σ H s → RelV x v → r x H Q →
    wpAny (model X.prog X.w) X.A (f v) (EP X pins σ Q) X.xe s
/-- a call of a value that is known (a builtin, a type) with values -/
def CallR (X : Cx) (f : Value) (r : List V → Hp → VK → Prop) : Prop :=
  ∀ (pins : List (Addr × Obj)) (s : Shared) (σ : St) (H : Hp) (xs : List V) (us : List Value) (Q : VK), Inv X pins σ H s → Vals xs us → r xs H Q →
    wpAny (model X.prog X.w) X.A (call f us) (EP X pins σ Q) X.xe s
/-- a value's truth -/
def TruR (X : Cx) (r : V → Hp → (Bool → Hp → Prop) → Prop) : Prop :=
  ∀ (pins : List (Addr × Obj)) (s : Shared) (σ : St) (H : Hp) (x : V) (v : Value) (Q : Bool → Hp → Prop), Inv X pins σ H s → RelV x v → r x H Q →
    wpAny (model X.prog X.w) X.A (truthy v) (TP X pins σ Q) X.xe s

def tOp (r : R2) (ta tb : TE) : TE := fun σ H Q => ta σ H fun x H1 => tb σ H1 fun y H2 => r x y H2 Q
def tUn (r : V → Hp → VK → Prop) (ta : TE) : TE := fun σ H Q => ta σ H fun x H1 => r x H1 Q
/-- ints in, under C, and a value out -/
def rI (C : Int → Int → Prop) (g : Int → Int → V) : R2 := fun x y H Q => ∃ i j, x = .int i ∧ y = .int j ∧ C i j ∧ Q (g i j) H
def rI0 (g : Int → Int → V) : R2 := fun x y H Q => ∃ i j, x = .int i ∧ y = .int j ∧ Q (g i j) H
def rU (g : Int → V) : V → Hp → VK → Prop := fun x H Q => ∃ i, x = .int i ∧ Q (g i) H

section
variable {X : Cx} {a b c : Expr} {ta tb tc : TE} {pos : Pos}

theorem binT (ha : PE X a ta) (hb : PE X b tb) {pins : List (Addr × Obj)} {s : Shared} {σ : St} {H : Hp} {R : V → V → Hp → Prop} (I : Inv X pins σ H s)
    (h : ta σ H fun x H1 => tb σ H1 fun y H2 => R x y H2) {Q : Value → Shared → Prop} {f : Value → Value → Sem Value}
    (hf : ∀ v u s2 x y H2, Inv X pins σ H2 s2 → RelV x v → RelV y u → R x y H2 → wpAny (model X.prog X.w) X.A (f v u) Q X.xe s2) :
    wpAny (model X.prog X.w) X.A (eval a X.env) (fun v s₁ => wpAny (model X.prog X.w) X.A (eval b X.env) (fun u s₂ => wpAny (model X.prog X.w) X.A (f v u) Q X.xe s₂) X.xe s₁) X.xe s := by
  refine thn (ha pins s σ H _ I h) fun v s1 ⟨x, H1, I1, r1, q1⟩ => ?_
  refine thn (hb pins s1 σ H1 _ I1 q1) fun u s2 ⟨y, H2, I2, r2, q2⟩ => ?_
  exact hf v u s2 x y H2 I2 r1 r2 q2

theorem pe_op {op : Operator} {r : R2} (ho : OpR X (binaryOp op) r) (ha : PE X a ta) (hb : PE X b tb) : PE X (.BinOp a op b pos) (tOp r ta tb) := by
  intro pins s σ H Q I h
  exact wpAny_BinOp (binT ha hb I h fun v u s2 x y H2 I2 rx ry q => ho pins s2 σ H2 x y v u Q I2 rx ry q)
theorem pe_un {op : UnaryOp} {r : V → Hp → VK → Prop} (ho : UnR X (unaryOp op) r) (ha : PE X a ta) : PE X (.UnaryOp op a pos) (tUn r ta) := by
  intro pins s σ H Q I h
  exact UnaryOp_ (thn (ha pins s σ H _ I h) fun v s1 ⟨x, H1, I1, r1, q1⟩ => ho pins s1 σ H1 x v Q I1 r1 q1)
theorem opI {f : Value → Value → Sem Value} {C : Int → Int → Prop} {g : Int → Int → Int}
    (rule : ∀ (i j : Int) (t u : Tok) (s : Shared) (Q : Value → Shared → Prop) (E : Value → Shared → Prop), C i j → Q (.int (g i j) s.toks) { s with toks := s.toks + 1 } → wpAny (model X.prog X.w) X.A (f (.int i t) (.int j u)) Q E s) :
    OpR X f (rI C fun i j => .int (g i j)) := by
  intro pins s σ H x y v u Q I rx ry h
  obtain ⟨i, j, rfl, rfl, hc, q⟩ := h
  obtain ⟨t, rfl⟩ := rx
  obtain ⟨t', rfl⟩ := ry
  exact rule i j t t' s _ _ hc ⟨.int (g i j), H, I.tok _, ⟨_, rfl⟩, q⟩
theorem opI0 {f : Value → Value → Sem Value} {g : Int → Int → Int}
    (rule : ∀ (i j : Int) (t u : Tok) (s : Shared) (Q : Value → Shared → Prop) (E : Value → Shared → Prop), Q (.int (g i j) s.toks) { s with toks := s.toks + 1 } → wpAny (model X.prog X.w) X.A (f (.int i t) (.int j u)) Q E s) :
    OpR X f (rI0 fun i j => .int (g i j)) := by
  intro pins s σ H x y v u Q I rx ry h
  obtain ⟨i, j, rfl, rfl, q⟩ := h
  obtain ⟨t, rfl⟩ := rx
  obtain ⟨t', rfl⟩ := ry
  exact rule i j t t' s _ _ ⟨.int (g i j), H, I.tok _, ⟨_, rfl⟩, q⟩
theorem opB0 {f : Value → Value → Sem Value} {g : Int → Int → Bool}
    (rule : ∀ (i j : Int) (t u : Tok) (s : Shared) (Q : Value → Shared → Prop) (E : Value → Shared → Prop), Q (.bool (g i j)) s → wpAny (model X.prog X.w) X.A (f (.int i t) (.int j u)) Q E s) :
    OpR X f (rI0 fun i j => .bl (g i j)) := by
  intro pins s σ H x y v u Q I rx ry h
  obtain ⟨i, j, rfl, rfl, q⟩ := h
  obtain ⟨t, rfl⟩ := rx
  obtain ⟨t', rfl⟩ := ry
  exact rule i j t t' s _ _ ⟨.bl (g i j), H, I, rfl, q⟩

theorem two_pow_nn (k : Nat) : (0 : Int) ≤ 2 ^ k := by
  rw [two_pow_cast]
  exact Int.natCast_nonneg _

theorem op_add : OpR X (binaryOp .Add) (rI0 fun i j => .int (i + j)) := opI0 fun _ _ _ _ _ _ _ q => add_int q
theorem op_sub : OpR X (binaryOp .Sub) (rI0 fun i j => .int (i - j)) := opI0 fun _ _ _ _ _ _ _ q => sub_int q
theorem op_shr : OpR X (binaryOp .RShift) (rI (fun _ j => 0 ≤ j) fun i j => .int (i / 2 ^ j.toNat)) := opI fun i j _ _ _ _ _ hc q =>
  rshift_int hc (by rw [Int.fdiv_eq_ediv_of_nonneg i (two_pow_nn _)]; exact q)
theorem op_and : OpR X (binaryOp .BitAnd) (rI0 fun i j => .int (Builtin.bitAnd i j)) := opI0 fun _ _ _ _ _ _ _ q => and_int q
theorem unI {f : Value → Sem Value} {g : Int → Int}
    (rule : ∀ (i : Int) (t : Tok) (s : Shared) (Q : Value → Shared → Prop) (E : Value → Shared → Prop), Q (.int (g i) s.toks) { s with toks := s.toks + 1 } → wpAny (model X.prog X.w) X.A (f (.int i t)) Q E s) :
    UnR X f (rU fun i => .int (g i)) := by
  intro pins s σ H x v Q I rx h
  obtain ⟨i, rfl, q⟩ := h
  obtain ⟨t, rfl⟩ := rx
  exact rule i t s _ _ ⟨.int (g i), H, I.tok _, ⟨_, rfl⟩, q⟩
theorem un_neg : UnR X (unaryOp .USub) (rU fun i => .int (-i)) := unI fun _ _ _ _ _ q => neg_int q
end

/-- the scalars that == tells apart as data does -/
def scal : V → V → Bool
  | .non, .non => true | .non, .int _ => true | .int _, .non => true | .non, .bl _ => true | .bl _, .non => true | .non, .str _ => true | .str _, .non => true
  | .int _, .int _ => true | .bl _, .bl _ => true | .str _, .str _ => true | .byt _, .byt _ => true
  | .int _, .str _ => true | .str _, .int _ => true | .bl _, .str _ => true | .str _, .bl _ => true
  | _, _ => false
def rEq : R2 := fun x y H Q => scal x y = true ∧ Q (.bl (decide (x = y))) H
def rNe : R2 := fun x y H Q => scal x y = true ∧ Q (.bl (!decide (x = y))) H

theorem dec_int {i j : Int} : decide (V.int i = V.int j) = (i == j) := by
  rw [Bool.eq_iff_iff]
  simp
theorem dec_bl {i j : Bool} : decide (V.bl i = V.bl j) = (i == j) := by
  rw [Bool.eq_iff_iff]
  simp
theorem dec_str {i j : Str} : decide (V.str i = V.str j) = (i == j) := by
  rw [Bool.eq_iff_iff]
  simp
theorem dec_byt {i j : Array UInt8} : decide (V.byt i = V.byt j) = (i.toList == j.toList) := by
  rw [Bool.eq_iff_iff]
  cases i
  cases j
  simp

section
variable {X : Cx} {a b c : Expr} {ta tb tc : TE} {pos : Pos}
theorem fin_bl {pins : List (Addr × Obj)} {σ : St} {H : Hp} {s : Shared} {Q : VK} {k k' : Bool} (I : Inv X pins σ H s) (q : Q (.bl k) H) (e : k = k') : EP X pins σ Q (.bool k') s := by
  subst e
  exact ⟨.bl k, H, I, rfl, q⟩
theorem op_eq : OpR X (compareOp .Eq) rEq := by
  intro pins s σ H x y v u Q I rx ry h
  obtain ⟨hs, q⟩ := h
  cases x with
  | non =>
    cases rx
    cases y with
    | non => cases ry; exact PySem.EqNone.eq_none_none (fin_bl I q (by simp))
    | bl j => cases ry; exact PySem.EqNone.eq_none_bool (fin_bl I q (by simp))
    | int j => obtain ⟨t', rfl⟩ := ry; exact PySem.EqNone.eq_none_int (fin_bl I q (by simp))
    | str j => obtain ⟨t', rfl⟩ := ry; exact PySem.EqNone.eq_none_str (fin_bl I q (by simp))
    | _ => exact absurd (show false = true from hs) Bool.false_ne_true
  | bl i =>
    cases rx
    cases y with
    | non => cases ry; exact PySem.EqNone.eq_bool_none (fin_bl I q (by simp))
    | bl j => cases ry; exact eq_bool (fin_bl I q dec_bl)
    | str j => obtain ⟨t', rfl⟩ := ry; exact PySem.EqMixed.eq_bool_str (fin_bl I q (by simp))
    | _ => exact absurd (show false = true from hs) Bool.false_ne_true
  | int i =>
    obtain ⟨t, rfl⟩ := rx
    cases y with
    | non => cases ry; exact PySem.EqNone.eq_int_none (fin_bl I q (by simp))
    | int j => obtain ⟨t', rfl⟩ := ry; exact eq_int (fin_bl I q dec_int)
    | str j => obtain ⟨t', rfl⟩ := ry; exact PySem.EqMixed.eq_int_str (fin_bl I q (by simp))
    | _ => exact absurd (show false = true from hs) Bool.false_ne_true
  | str i =>
    obtain ⟨t, rfl⟩ := rx
    cases y with
    | non => cases ry; exact PySem.EqNone.eq_str_none (fin_bl I q (by simp))
    | bl j => cases ry; exact PySem.EqMixed.eq_str_bool (fin_bl I q (by simp))
    | int j => obtain ⟨t', rfl⟩ := ry; exact PySem.EqMixed.eq_str_int (fin_bl I q (by simp))
    | str j => obtain ⟨t', rfl⟩ := ry; exact eq_str (fin_bl I q dec_str)
    | _ => exact absurd (show false = true from hs) Bool.false_ne_true
  | byt i =>
    obtain ⟨t, rfl⟩ := rx
    cases y with
    | byt j => obtain ⟨t', rfl⟩ := ry; exact PySem.W.eq_bytes (fin_bl I q dec_byt)
    | _ => exact absurd (show false = true from hs) Bool.false_ne_true
  | _ => cases y <;> exact absurd (show false = true from hs) Bool.false_ne_true
theorem op_ne : OpR X (compareOp .NotEq) rNe := by
  intro pins s σ H x y v u Q I rx ry h
  obtain ⟨hs, q⟩ := h
  cases x with
  | non =>
    cases rx
    cases y with
    | non => cases ry; exact PySem.EqNone.ne_none_none (fin_bl I q (by simp))
    | bl j => cases ry; exact PySem.EqNone.ne_none_bool (fin_bl I q (by simp))
    | int j => obtain ⟨t', rfl⟩ := ry; exact PySem.EqNone.ne_none_int (fin_bl I q (by simp))
    | str j => obtain ⟨t', rfl⟩ := ry; exact PySem.EqNone.ne_none_str (fin_bl I q (by simp))
    | _ => exact absurd (show false = true from hs) Bool.false_ne_true
  | bl i =>
    cases rx
    cases y with
    | non => cases ry; exact PySem.EqNone.ne_bool_none (fin_bl I q (by simp))
    | bl j => cases ry; exact ne_bool (fin_bl I q (congrArg not dec_bl))
    | str j => obtain ⟨t', rfl⟩ := ry; exact PySem.EqMixed.ne_bool_str (fin_bl I q (by simp))
    | _ => exact absurd (show false = true from hs) Bool.false_ne_true
  | int i =>
    obtain ⟨t, rfl⟩ := rx
    cases y with
    | non => cases ry; exact PySem.EqNone.ne_int_none (fin_bl I q (by simp))
    | int j => obtain ⟨t', rfl⟩ := ry; exact ne_int (fin_bl I q (congrArg not dec_int))
    | str j => obtain ⟨t', rfl⟩ := ry; exact PySem.EqMixed.ne_int_str (fin_bl I q (by simp))
    | _ => exact absurd (show false = true from hs) Bool.false_ne_true
  | str i =>
    obtain ⟨t, rfl⟩ := rx
    cases y with
    | non => cases ry; exact PySem.EqNone.ne_str_none (fin_bl I q (by simp))
    | bl j => cases ry; exact PySem.EqMixed.ne_str_bool (fin_bl I q (by simp))
    | int j => obtain ⟨t', rfl⟩ := ry; exact PySem.EqMixed.ne_str_int (fin_bl I q (by simp))
    | str j => obtain ⟨t', rfl⟩ := ry; exact ne_str (fin_bl I q (congrArg not dec_str))
    | _ => exact absurd (show false = true from hs) Bool.false_ne_true
  | byt i =>
    obtain ⟨t, rfl⟩ := rx
    cases y with
    | byt j => obtain ⟨t', rfl⟩ := ry; exact PySem.W.ne_bytes (fin_bl I q (congrArg not dec_byt))
    | _ => exact absurd (show false = true from hs) Bool.false_ne_true
  | _ => cases y <;> exact absurd (show false = true from hs) Bool.false_ne_true

theorem op_le : OpR X (compareOp .LtE) (rI0 fun i j => .bl (decide (i ≤ j))) := opB0 fun _ _ _ _ _ _ _ q => le_int q
theorem nomark (b : Expr) {op : CmpOp} (h : op ≠ .In := by decide) (h2 : op ≠ .NotIn := by decide) : behindInMarks op b = false := by
  have e1 : (op == CmpOp.In) = false := by cases op <;> first | rfl | exact absurd rfl h
  have e2 : (op == CmpOp.NotIn) = false := by cases op <;> first | rfl | exact absurd rfl h2
  cases b <;> simp [behindInMarks, e1, e2]
/-- a comparison as a value; hm: nomark b, or (for in, not in) by with_unfolding_all rfl -/
theorem pe_cmpR {op : CmpOp} {r : R2} (ho : OpR X (compareOp op) r) (ha : PE X a ta) (hb : PE X b tb) (hm : behindInMarks op b = false) : PE X (.Compare a [op] [b] pos) (tOp r ta tb) := by
  intro pins s σ H Q I h
  exact wpAny_Compare1 (binT ha hb I h fun v u s2 x y H2 I2 rx ry q => ho pins s2 σ H2 x y v u Q I2 rx ry q) hm
/-- a reading of a value as a test -/
def tTest (t : TE) : TT := fun σ H Q => t σ H fun x H' => ∃ k, x = .bl k ∧ Q k H'
theorem pt_cmpR {op : CmpOp} {r : R2} (ho : OpR X (compareOp op) r) (ha : PE X a ta) (hb : PE X b tb) (hm : behindInMarks op b = false) : PT X (.Compare a [op] [b] pos) (tTest (tOp r ta tb)) := by
  intro pins s σ H Q I h
  refine wpAny_isTrue_Compare1 (thn (ha pins s σ H _ I h) fun v s1 ⟨x, H1, I1, r1, q1⟩ => thn (hb pins s1 σ H1 _ I1 q1) fun u s2 ⟨y, H2, I2, r2, q2⟩ =>
    thn (ho pins s2 σ H2 x y v u _ I2 r1 r2 q2) fun c s3 ⟨z, H3, I3, r3, k, e, q3⟩ => ?_) hm
  subst e
  cases r3
  exact wpAny_truthy_bool ⟨H3, I3, q3⟩
/-- a value's truth by the abstract heap -/
def TruV (K : PySem.W.Frag) (x : V) (H : Hp) (k : Bool) : Prop :=
  match x with
  | .non => k = false
  | .bl b => k = b
  | .int i => k = (i != 0)
  | .str y => y.length ≤ sizeLine ∧ k = ((y.length : Int) != 0)
  | .byt y => y.size ≤ sizeLine ∧ k = ((y.size : Int) != 0)
  | .ref p => (∃ xs, SqL K H p xs ∧ k = !xs.isEmpty) ∨ (∃ xs, SqT K H p xs ∧ k = !xs.isEmpty) ∨ ∃ kvs, H p = some (.dK kvs) ∧ k = !kvs.isEmpty
  | _ => False
theorem isEmpty_kv {κ : Type} {kvs : List (κ × V)} {vs : List (κ × Value)} (r : KV kvs vs) : (!vs.isEmpty) = !kvs.isEmpty := by
  cases r <;> rfl
theorem isEmpty_of {xs : List V} {its : List Value} (r : Vals xs its) : (!its.toArray.isEmpty) = !xs.isEmpty := by
  cases r <;> simp
theorem line63 : (sizeLine : Nat) < 2 ^ 63 := by rw [sizeLine_eq]; decide
theorem tru_ok : TruR X (fun x H Q => ∃ k, TruV X.K x H k ∧ Q k H) := by
  intro pins s σ H x v Q I rx h
  obtain ⟨k, e, q⟩ := h
  have hl := line63
  have hs : sizeLine = 16777216 := sizeLine_eq
  cases x with
  | non =>
    cases rx
    have e' : k = false := e
    subst e'
    exact truthy_none ⟨H, I, q⟩
  | bl b =>
    cases rx
    have e' : k = b := e
    subst e'
    exact wpAny_truthy_bool ⟨H, I, q⟩
  | int i =>
    obtain ⟨t, rfl⟩ := rx
    have e' : k = (i != 0) := e
    subst e'
    exact PySem.P.truthy_int ⟨H, I, q⟩
  | str y =>
    obtain ⟨t, rfl⟩ := rx
    obtain ⟨hy, e'⟩ : y.length ≤ sizeLine ∧ k = ((y.length : Int) != 0) := e
    subst e'
    exact PySem.P.truthy_str (by omega) ⟨H, I.tok _, q⟩
  | byt y =>
    obtain ⟨t, rfl⟩ := rx
    obtain ⟨hy, e'⟩ : y.size ≤ sizeLine ∧ k = ((y.size : Int) != 0) := e
    subst e'
    exact PySem.W.truthy_bytes (by omega) ⟨H, I.tok _, q⟩
  | ref p =>
    cases rx
    have e' : (∃ xs, SqL X.K H p xs ∧ k = !xs.isEmpty) ∨ (∃ xs, SqT X.K H p xs ∧ k = !xs.isEmpty) ∨ ∃ kvs, H p = some (.dK kvs) ∧ k = !kvs.isEmpty := e
    rcases e' with ⟨xs, hx, e'⟩ | ⟨xs, hx, e'⟩ | ⟨kvs, hx, e'⟩
    · subst e'
      obtain ⟨its, r, pl, hz⟩ := I.list hx
      have hlen := r.length
      exact wpAny_truthy_list pl.isList (by simp only [List.size_toArray]; omega) ⟨H, I.tok _, by rw [isEmpty_of r]; exact q⟩
    · subst e'
      obtain ⟨its, r, pl, hz⟩ := I.tuple hx
      have hlen := r.length
      exact truthy_tuple pl (by simp only [List.size_toArray]; omega) ⟨H, I.tok _, by rw [isEmpty_of r]; exact q⟩
    · subst e'
      obtain ⟨hz, hS, vs, r, m⟩ : kvs.length ≤ sizeLine ∧ (p == sysModules) = false ∧ ∃ vs, KV kvs vs ∧ s.heap.DictOf (mixKind X.prog X.w) p vs := I.hok p _ hx
      have hlen : kvs.length = vs.length := Paired.length r
      exact wpAny_truthy_dict hS m (by omega) ⟨H, I.tok _, by rw [isEmpty_kv r]; exact q⟩
  | _ => exact (show False from e).elim
/-- any expression whose test is its value's truth (a name, a call, a subscript, a field ..: he by fun _ => rfl) -/
theorem pt_truth (ha : PE X a ta) (he : ∀ whole, isTrue a X.env whole = (do let v ← whole; standAt a.pos; holding [v] (truthy v))) :
    PT X a (fun σ H Q => ta σ H fun x H' => ∃ k, TruV X.K x H' k ∧ Q k H') := by
  intro pins s σ H Q I h
  exact isTrue_plain (thn (ha pins s σ H _ I h) fun v s1 ⟨x, H1, I1, r1, q1⟩ => tru_ok pins s1 σ H1 x v Q I1 r1 q1) (he _)

theorem vals1 {x : V} {us : List Value} (r : Vals [x] us) : ∃ u, us = [u] ∧ RelV x u := by
  cases r with
  | cons r1 r2 => cases r2; exact ⟨_, rfl, r1⟩
end
end L2

namespace L2
open PySem PySem.Spec PyProof.Rows

section
variable {prog : Program} {w : World} {A : Around} {E : Value → Shared → Prop} {s : Shared} {K : PySem.W.Frag} {x dx C f : Addr} {mA : Str → Option Value} {name : Str} {v : Value}

end

section
variable {P : Program} {w : World} {H H' : Hp} {h h' : Heap} {a C dx : Addr} {fs fs' : List (Str × V)}
end

section
variable {X : Cx} {pins : List (Addr × Obj)} {σ : St} {H : Hp} {s : Shared} {a C dx : Addr} {fs : List (Str × V)} {f : Str} {v : V} {A : Around} {E : Value → Shared → Prop}

end

section
variable {X : Cx} {o e value : Expr} {f : Str} {pos pos' tpos : Pos} {ta tv : TE}
end

section
variable {X : Cx} {pins : List (Addr × Obj)} {σ : St} {H : Hp} {s : Shared} {A : Around} {E : Value → Shared → Prop} {Q : Value → Shared → Prop} {c : Value} {b : Bool}
end
end L2

namespace L2
open PySem PySem.Spec PyProof.Rows

structure Room (k : Nat) (A : Around) : Prop where
  hd : A.handled = none
  dp : A.depth + 3 * k + 5 < recursionLimit
  un : A.units + 16 * k + 200 < cLine
theorem Room.mono {j k : Nat} {A : Around} (r : Room k A) (h : j ≤ k) : Room j A := ⟨r.hd, by have := r.dp; omega, by have := r.un; omega⟩
theorem Room.deeper {k : Nat} {A : Around} (r : Room (k + 1) A) (env : Env) : Room k (A.deeper env) :=
  ⟨r.hd, by have := r.dp; show A.depth + 1 + 3 * k + 5 < _; omega, by have := r.un; show A.units + 3 + 16 * k + 200 < _; omega⟩
theorem Room.in1 {k : Nat} {A : Around} (r : Room (k + 1) A) : Room k A.in1 :=
  ⟨r.hd, by have := r.dp; show A.depth + 3 * k + 5 < _; omega, by have := r.un; show A.units + 1 + 16 * k + 200 < _; omega⟩
theorem Room.depth {k : Nat} {A : Around} (r : Room k A) : A.depth < recursionLimit := by have := r.dp; omega
def tNil : TA := fun _ H Q => Q [] H
def tCons (ta : TE) (tr : TA) : TA := fun σ H Q => ta σ H fun x H1 => tr σ H1 fun xs H2 => Q (x :: xs) H2
section
variable {X : Cx} {e : Expr} {es : List Expr} {te : TE} {t : TA} {pos : Pos}
theorem pa_nil : PA X [] tNil := fun _ _ _ _ H Q I h => Calls.spliced_nil ⟨[], H, I, .nil, h⟩
theorem pa_cons (ha : PE X e te) (hr : PA X es t) (hs : starEach (e :: es) X.env = (false, eval e X.env) :: starEach es X.env := by rfl) : PA X (e :: es) (tCons te t) := by
  intro pos pins s σ H Q I h
  rw [hs]
  show wpAny _ _ (spliced ((false, eval e X.env) :: backTo pos (starEach es X.env))) _ _ s
  refine Calls.spliced_cons (thn (ha pins s σ H _ I h) fun u s1 ⟨x, H1, I1, r1, q1⟩ => ?_)
  exact thn (hr pos pins s1 σ H1 _ I1 q1) fun us s2 ⟨xs, H2, I2, r2, q2⟩ => ⟨x :: xs, H2, I2, .cons r1 r2, q2⟩

/-- a tuple, a list of written items -/
def tTup (t : TA) : TE := fun σ H Q => t σ H fun xs H1 => xs.length ≤ sizeLine ∧ ∀ p, H1 p = none → Q (.ref p) (upd H1 p (.tup xs))
def tLst (t : TA) : TE := fun σ H Q => t σ H fun xs H1 => xs.length ≤ sizeLine ∧ ∀ p, H1 p = none → Q (.ref p) (upd H1 p (.lst xs))
theorem pe_tup {x1} (h : PA X es t) : PE X (.Tuple es x1 pos) (tTup t) := by
  intro pins s σ H Q I hq
  refine wpAny_Tuple_spliced (thn (h pos pins s σ H _ I hq) fun us s1 ⟨xs, H1, I1, r, z, q⟩ => ⟨by rw [← r.length]; exact z, ?_⟩)
  have hf : H1 s1.heap.objs.size = none := I1.hok.fresh (Nat.le_refl _)
  refine ⟨.ref s1.heap.objs.size, upd H1 s1.heap.objs.size (.tup xs), I1.laid (t' := s1.toks) (fun b u e => Heap.get?_push_of_some _ e) (Nat.le_refl _) ?_, rfl, q _ hf⟩
  exact ⟨z, us, r, ⟨_, Heap.get?_push_size _ rfl, rfl, _, rfl⟩⟩
theorem pe_lst (h : PA X es t) : PE X (.List es pos) (tLst t) := by
  intro pins s σ H Q I hq
  refine wpAny_List_spliced (thn (h pos pins s σ H _ I hq) fun us s1 ⟨xs, H1, I1, r, z, q⟩ => ⟨by rw [← r.length]; exact z, ?_⟩)
  have hf : H1 s1.heap.objs.size = none := I1.hok.fresh (Nat.le_refl _)
  refine ⟨.ref s1.heap.objs.size, upd H1 s1.heap.objs.size (.lst xs), I1.laid (t' := s1.toks) (fun b u e => Heap.get?_push_of_some _ e) (Nat.le_refl _) ?_, rfl, q _ hf⟩
  exact ⟨z, us, 0, r, Heap.get?_push_size _ rfl⟩
end

/-- a def's promise: the bound arguments in the parameters' order, the heap, the wanted end, the wanted exception -/
abbrev Sp := List V → Hp → VK → XK → Prop
/-- how an exception lies behind a call (file 08 gives it): the callers' frames, abstract heap and state ahead of the call, the wish, the exception, the state -/
abbrev CXT := List Env → Hp → Shared → XK → Value → Shared → Prop

/-- the state at a call -/
structure Env0 (P : Program) (w : World) (K : PySem.W.Frag) (mg : Str → Option Value) (base : Heap) (A : Around) (outer : List Env) (s : Shared) (H : Hp) : Prop where
  frames : A.frames = some outer
  mod : Mod K mg base
  bs : ∀ b o, base.get? b = some o → s.heap.get? b = some o ∧ H b = none
  bsz : base.objs.size ≤ s.heap.objs.size
  funs : s.heap.FunFrames base outer
  frf : ∀ b ∈ frs outer, H b = none
  hok : HOk P w H s.heap
  bare : AllBare s.gens
/-- a call's end -/
def CE (outer : List Env) (P : Program) (w : World) (H : Hp) (s : Shared) (Q : VK) (u : Value) (s' : Shared) : Prop :=
  ∃ v H', s'.os = s.os ∧ AllBare s'.gens ∧ Un (frs outer) [] H H' s.heap s'.heap ∧ HOk P w H' s'.heap ∧ RelV v u ∧ Q v H'
def CR (CX : CXT) (outer : List Env) (P : Program) (w : World) (H : Hp) (s : Shared) (Q : VK) (E : XK) (r : Result) (s' : Shared) : Prop :=
  match r with
  | .ok (.ret u) => CE outer P w H s Q u s'
  | .ok _ => False
  | .error e => CX outer H s E e s'
structure FnOk (P : Program) (w : World) (K : PySem.W.Frag) (mg : Str → Option Value) (base : Heap) (CX : CXT) (k : Nat) (f : Addr) (fd : FuncData) (ps : List Str) (sp : Sp) : Prop where
  len : ∀ vs H Q E, sp vs H Q E → vs.length = ps.length
  run : ∀ (A : Around) (outer : List Env) (s : Shared) (H : Hp) (args : Args) (us : List Value) (vs : List V) (Q : VK) (E : XK), Room k A → Env0 P w K mg base A outer s H → BindsTo s fd args (ps.zip us) → Vals vs us → sp vs H Q E →
    codeAny (model P w) A (.call (.ref f) args) (CR CX outer P w H s Q E) s
section
variable {X : Cx} {pins : List (Addr × Obj)} {σ : St} {H : Hp} {s s' : Shared}
/-- from a body: what a callee wants -/
theorem Inv.env0 (I : Inv X pins σ H s) : Env0 X.prog X.w X.K X.mg X.base X.A X.stack s H :=
  ⟨I.ok.frames, I.ok.mod, I.bs, Nat.le_trans I.ok.bsz I.sz, I.stack, I.stkFree, I.hok, I.bare⟩
/-- behind a call -/
theorem Inv.after {Q : VK} {u : Value} (I : Inv X pins σ H s) (h : CE X.stack X.prog X.w H s Q u s') : EP X pins σ Q u s' := by
  obtain ⟨v, H', os, bare, un, hok, r, q⟩ := h
  obtain ⟨hh, g, d, t, os'⟩ := s'
  obtain rfl : os' = s.os := os
  exact ⟨v, H', I.call (h' := hh) (g' := g) (d' := d) (t' := t) (ch := []) un hok bare (fun b z => absurd z (by simp)), r, q⟩
end

/-- f(..): the written arguments, then the defaults dvs; E: what is wanted of an exception -/
def tCall (sp : Sp) (dvs : List V) (E : XK) (t : TA) : TE := fun σ H Q => t σ H fun vs H1 => sp (vs ++ dvs) H1 Q E
/-- how the parameters are bound: us the positional arguments, kw the keywords' values by name, ds the defaults that fill up -/
def Binds (K : PySem.W.Frag) (fd : FuncData) (ps : List Str) (ds : List Value) : Prop :=
  ∀ (s : Shared) (us : List Value), K.In s.heap → (us ++ ds).length = ps.length → BindsTo s fd ⟨us, []⟩ (ps.zip (us ++ ds))
/-- every parameter is given -/
theorem Binds.all {K : PySem.W.Frag} {fd : FuncData} {ps : List Str} (h : ∀ us : List Value, us.length = ps.length → bindArgs fd ⟨us, []⟩ = pure (ps.zip us)) : Binds K fd ps [] := fun s us _ hl => by
  rw [List.append_nil] at hl ⊢
  exact .of_eq (h us hl)

/-- an exception of a callee reaches what this body wants of exceptions -/
def Passes (CX : CXT) (X : Cx) (E : XK) : Prop := ∀ (pins : List (Addr × Obj)) (σ : St) (H : Hp) (s : Shared) (e : Value) (s' : Shared), Inv X pins σ H s → CX X.stack H s E e s' → X.xe e s'

section
variable {X : Cx} {CX : CXT} {k : Nat} {f C : Addr} {fd : FuncData} {ps : List Str} {sp : Sp} {dvs : List V} {ds : List Value} {E : XK} {x m : Str} {p pos apos : Pos} {e o : Expr} {es : List Expr} {ta : TE} {t : TA}

/-- the callee runs -/
theorem run_fn {pins : List (Addr × Obj)} {σ : St} {H : Hp} {s : Shared} {Q : VK} {us : List Value} {vs : List V} (F : FnOk X.prog X.w X.K X.mg X.base CX k f fd ps sp) (hr : Room k X.A) (hb : Binds X.K fd ps ds) (hd : Vals dvs ds) (hx : Passes CX X E)
    (I : Inv X pins σ H s) (r : Vals vs us) (h : sp (vs ++ dvs) H Q E) : wpAny (model X.prog X.w) X.A (call (.ref f) us) (EP X pins σ Q) X.xe s := by
  have r2 : Vals (vs ++ dvs) (us ++ ds) := r.append hd
  have hl : (us ++ ds).length = ps.length := by rw [← r2.length]; exact F.len _ _ _ _ h
  refine wpAny_call (codeAny_mono (F.run X.A X.stack s H ⟨us, []⟩ (us ++ ds) (vs ++ dvs) Q E hr I.env0 (hb s us I.kIn hl) r2 h) fun r s' hq => ?_)
  cases r with
  | error e => exact hx pins σ H s e s' I hq
  | ok fl =>
    cases fl with
    | ret u => exact I.after hq
    | next => exact False.elim hq
    | brk => exact False.elim hq
    | cont => exact False.elim hq

theorem pe_call (F : FnOk X.prog X.w X.K X.mg X.base CX k f fd ps sp) (hr : Room k X.A) (hg : Gl X x) (hm : X.mg x = some (.ref f)) (hk : PySem.W.keepIn X.K (.ref f) = true) (hb : Binds X.K fd ps ds) (hd : Vals dvs ds) (hx : Passes CX X E)
    (ha : PA X (e :: es) t) (hdb : (x == ("__debug__" : Str)) = false := by decide) (he : starEach (e :: es) X.env = (false, eval e X.env) :: starEach es X.env := by rfl) (hpl : (backTo pos (starEach es X.env)).any (·.1) = false := by rfl) :
    PE X (.Call (.Name x p) (e :: es) [] pos) (tCall sp dvs E t) := by
  intro pins s σ H Q I h
  refine wpAny_Call_Name_kw (ld_glob I hg hm ?_ hdb)
  refine PySem.W.callWith_K (h₀ := X.base) I.ok.mod.kin hk (thn (ha pos pins s σ H _ I h) fun us s1 ⟨vs, H1, I1, r, q⟩ => ⟨I1.kIn, ?_⟩) he hpl
  exact run_fn F hr hb hd hx I1 r q
end

/-- the values of the keywords, from the left -/
def PK (X : Cx) (kws : List Keyword) (t : TA) : Prop :=
  ∀ (pos : Pos) (pins : List (Addr × Obj)) (s : Shared) (σ : St) (H : Hp) (Q : List V → Hp → Prop), Inv X pins σ H s → t σ H Q → wpAny (model X.prog X.w) X.A (evalAll ((backToKw pos (keywordEach kws X.env)).map (·.2))) (AP X pins σ Q) X.xe s
section
variable {X : Cx} {CX : CXT} {k : Nat} {f C : Addr} {fd : FuncData} {ps ks : List Str} {sp : Sp} {E : XK} {x m : Str} {p pos apos kpos : Pos} {e o : Expr} {es : List Expr} {kws : List Keyword} {te ta : TE} {t tk : TA} {nm : Option Str}
theorem pk_nil : PK X [] tNil := fun _ _ _ _ H Q I h => wpAny_evalAll_nil ⟨[], H, I, .nil, h⟩
theorem pk_cons (ha : PE X e te) (hr : PK X kws t) : PK X (⟨nm, e, kpos⟩ :: kws) (tCons te t) := by
  intro pos pins s σ H Q I h
  show wpAny _ _ (evalAll ((do let v ← eval e X.env; standAt pos; pure v) :: (backToKw pos (keywordEach kws X.env)).map (·.2))) _ _ s
  refine wpAny_evalAll_cons (wpAny_bind (thn (ha pins s σ H _ I h) fun u s1 ⟨x, H1, I1, r1, q1⟩ => wpAny_bind (wpAny_standAt (wpAny_pure ?_))))
  exact thn (hr pos pins s1 σ H1 _ I1 q1) fun us s2 ⟨xs, H2, I2, r2, q2⟩ => ⟨x :: xs, H2, I2, .cons r1 r2, q2⟩

variable {g : List Value → List Value → List Value} {gV : List V → List V → List V}
end

/-- names: the parameters first -/
structure FnScope (N P : List Str) (sc : Scope) : Prop where
  kind : sc.kind = .function
  co : sc.isCoroutine = false
  gen : sc.isGenerator = false
  nd : N.Nodup
  pre : N.take P.length = P
  par : ∀ x ∈ P, sc.names.lookup x = some .local ∨ sc.names.lookup x = some .cell
  nofree : ∀ y ∈ sc.names, y.2 ≠ .free

theorem bindL_out {kindOf : Str → Option NameKind} {x : Str} : ∀ {binds : List (Str × Value)} {m : Str → Option Value}, (∀ v, (x, v) ∉ binds) → bindL kindOf binds m x = m x
  | [], _, _ => rfl
  | (n, v) :: r, m, h => by
    unfold bindL
    rw [bindL_out fun w hw => h w (List.mem_cons_of_mem _ hw)]
    split
    · have : x ≠ n := by rintro rfl; exact h v List.mem_cons_self
      simp [this]
    · rfl
theorem bindC_out {kindOf : Str → Option NameKind} {x : Str} : ∀ {binds : List (Str × Value)} {m : Str → Option Value}, (∀ v, (x, v) ∉ binds) → bindC kindOf binds m x = m x
  | [], _, _ => rfl
  | (n, v) :: r, m, h => by
    unfold bindC
    rw [bindC_out fun w hw => h w (List.mem_cons_of_mem _ hw)]
    split
    · rfl
    · have : x ≠ n := by rintro rfl; exact h v List.mem_cons_self
      simp [this]
theorem bindL_get {kindOf : Str → Option NameKind} {x : Str} {v : Value} : ∀ {P : List Str} {vs : List Value} {i : Nat} {m : Str → Option Value}, P.Nodup → P[i]? = some x → vs[i]? = some v → kindOf x = some .local →
    bindL kindOf (P.zip vs) m x = some v
  | [], _, _, _, _, h, _, _ => by simp at h
  | _ :: _, [], _, _, _, _, h, _ => by simp at h
  | p :: P, w :: vs, 0, m, nd, h1, h2, hk => by
    simp at h1 h2; subst h1; subst h2
    show bindL kindOf ((p, w) :: P.zip vs) m p = _
    unfold bindL
    rw [bindL_out fun v hv => (List.nodup_cons.mp nd).1 (List.of_mem_zip hv).1, if_pos hk]
    simp
  | p :: P, w :: vs, i + 1, m, nd, h1, h2, hk => by
    show bindL kindOf ((p, w) :: P.zip vs) m x = _
    unfold bindL
    exact bindL_get (i := i) (List.nodup_cons.mp nd).2 (by simpa using h1) (by simpa using h2) hk
theorem bindC_get {kindOf : Str → Option NameKind} {x : Str} {v : Value} : ∀ {P : List Str} {vs : List Value} {i : Nat} {m : Str → Option Value}, P.Nodup → P[i]? = some x → vs[i]? = some v → kindOf x ≠ some .local →
    bindC kindOf (P.zip vs) m x = some v
  | [], _, _, _, _, h, _, _ => by simp at h
  | _ :: _, [], _, _, _, _, h, _ => by simp at h
  | p :: P, w :: vs, 0, m, nd, h1, h2, hk => by
    simp at h1 h2; subst h1; subst h2
    show bindC kindOf ((p, w) :: P.zip vs) m p = _
    unfold bindC
    rw [bindC_out fun v hv => (List.nodup_cons.mp nd).1 (List.of_mem_zip hv).1, if_neg hk]
    simp
  | p :: P, w :: vs, i + 1, m, nd, h1, h2, hk => by
    show bindC kindOf ((p, w) :: P.zip vs) m x = _
    unfold bindC
    exact bindC_get (i := i) (List.nodup_cons.mp nd).2 (by simpa using h1) (by simpa using h2) hk

/-- the names' values at the entry -/
def start (N : List Str) (vs : List V) : St := vs.map some ++ List.replicate (N.length - vs.length) none

/-- the context of a def's body, at its entry; an exception leaves the frame, then lies as CX says -/
def cxOf (CX : CXT) (P : Program) (w : World) (K : PySem.W.Frag) (mg : Str → Option Value) (base : Heap) (N : List Str) (qual : Str) (scope : Scope) (f : Addr) (cd : Value) (A : Around) (outer : List Env) (s : Shared) (H : Hp) (E : XK) : Cx where
  prog := P
  w := w
  K := K
  mg := mg
  base := base
  A := A.deeper (envOfC qual scope s.heap.objs.size f cd)
  N := N
  s_0 := s
  H_0 := H
  env := envOfC qual scope s.heap.objs.size f cd
  outer := outer
  stack := envOfC qual scope s.heap.objs.size f cd :: outer
  ex := []
  calm := true
  fn := fun _ => true
  pn := []
  xe := fun e s' => wpAny (model P w) (A.deeper (envOfC qual scope s.heap.objs.size f cd)) (leaving (envOfC qual scope s.heap.objs.size f cd) e) (fun _ s'' => CX outer H s E e s'') (fun e' s'' => CX outer H s E e' s'') s'

theorem cell_has {sc : Scope} {n : Nat} {x : Str} (h : sc.names.lookup x = some .cell) : ∃ c, (cellsFrom n sc.names []).lookup x = some c := by
  have q := PySem.W.cellsFrom_some sc.names n [] (.inl h)
  exact Option.isSome_iff_exists.mp q

theorem inv_start {CX : CXT} {P : Program} {w : World} {K : PySem.W.Frag} {mg : Str → Option Value} {base : Heap} {N ps : List Str} {qual : Str} {scope : Scope} {f : Addr} {cd : Value} {A : Around} {outer : List Env} {s s1 : Shared} {H : Hp} {E : XK} {us : List Value} {vs : List V}
    (S : FnScope N ps scope) (hd : A.handled = none) (e0 : Env0 P w K mg base A outer s H) (hl : vs.length = ps.length) (r : Vals vs us)
    (x : InCallC s s.heap.objs.size (bindL (envOfC qual scope s.heap.objs.size f cd).kindOf (ps.zip us) fun _ => none) (cellsFrom (s.heap.objs.size + 1) scope.names []) (bindC (envOfC qual scope s.heap.objs.size f cd).kindOf (ps.zip us) fun _ => none) s1) :
    Inv (cxOf CX P w K mg base N qual scope f cd A outer s H E) [] (start N vs) H s1 := by
  have hpl : ps.length ≤ N.length := by have := congrArg List.length S.pre; rw [List.length_take] at this; omega
  obtain ⟨h1, tk, rfl, hk⟩ := x.done
  have noA : ∀ b : Addr, b ∉ (cxOf CX P w K mg base N qual scope f cd A outer s H E).ex := fun b z => absurd (show b ∈ ([] : List Addr) from z) (by simp)
  refine ⟨⟨e0.mod, S.kind, rfl, rfl, Nat.le_refl _, fun y z c h1 h2 => ?_, fun y hy => ?_, fun y c _ h => ?_, fun _ => hd, Around.frames_deeper e0.frames, .inr ⟨rfl, rfl⟩, fun b z => absurd z (noA b), e0.bs, e0.bsz, fun b _ _ => noA b, fun b z => absurd z (noA b), e0.funs, e0.frf⟩,
    rfl, e0.bare, Un.kept hk, ⟨_, x.toInCall.ns, fun i y v h1 h2 h3 => ?_⟩, fun y c h => ⟨_, x.cell y c h⟩, e0.hok.fresh (Nat.le_refl _), fun y c h => ?_, fun p hp => absurd (show p ∈ ([] : List (Addr × Obj)) from hp) (by simp), e0.hok.kept hk, ?_⟩
  · exact name_of_addr x.apart (PySem.mem_of_lookup h1) (PySem.mem_of_lookup h2)
  · have hy : scope.names.lookup y = some .cell ∨ scope.names.lookup y = some .free := hy
    rcases hy with hy | hy
    · exact cell_has hy
    · exact absurd rfl (S.nofree _ (PySem.mem_of_lookup hy))
  · exact Nat.le_of_lt (x.above y c (PySem.mem_of_lookup h))
  · have hi : i < vs.length := by
      unfold start at h2
      by_cases hi : i < vs.length
      · exact hi
      · rw [List.getElem?_append_right (by simpa using hi)] at h2
        rw [List.getElem?_replicate] at h2
        split at h2 <;> cases h2
    have ha : vs[i]? = some v := by
      unfold start at h2
      rw [List.getElem?_append_left (by simpa using hi), List.getElem?_map] at h2
      cases e : vs[i]? with
      | none => rw [e] at h2; cases h2
      | some a => rw [e] at h2; cases h2; rfl
    obtain ⟨u, hu, rv⟩ := r.get ha
    have hp : ps[i]? = some y := by
      rw [← S.pre, List.getElem?_take_of_lt (by omega)]; exact h1
    have ndP : ps.Nodup := by rw [← S.pre]; exact S.nd.sublist (List.take_sublist _ _)
    refine ⟨u, rv, ?_⟩
    rcases S.par y (List.mem_of_getElem? hp) with k | k
    · exact .inl ⟨k, bindL_get ndP hp hu k⟩
    · obtain ⟨c, e⟩ := cell_has (n := s.heap.objs.size + 1) k
      refine .inr ⟨.inl k, c, e, ?_⟩
      have q := x.cell y c e
      rw [bindC_get ndP hp hu (by show scope.names.lookup y ≠ _; rw [k]; decide)] at q
      exact q
  · exact e0.hok.fresh (Nat.le_of_lt (x.above y c (PySem.mem_of_lookup h)))
  · unfold start
    show _ = N.length
    rw [List.length_append, List.length_map, List.length_replicate]
    omega

/-- THE RULE: a def (or a method) of the text, by its body. The body's reading t is chosen for each entry; it is run at the parameters' values -/
theorem fn_of {CX : CXT} {P : Program} {w : World} {K : PySem.W.Frag} {mg : Str → Option Value} {base : Heap} {k : Nat} {f : Addr} {name qual : Str} {params : Arguments} {body : List Stmt} {scope : Scope} {dV kV doc pm cdv ct oc : Value} {an od : Option Addr}
    {osl : Array (Option Value)} {N ps : List Str} {sp : Sp} (lk : K.lookup f = some ⟨oc, od, .func (PySem.W.fnOf name qual params body scope dV kV doc pm an cdv ct), osl⟩) (hcd : PySem.W.codeIn K cdv qual = true) (S : FnScope N ps scope)
    (len : ∀ vs H Q E, sp vs H Q E → vs.length = ps.length)
    (hbody : ∀ (A : Around) (outer : List Env) (s : Shared) (H : Hp) (vs : List V) (Q : VK) (E : XK), Room k (A.deeper (envOfC qual scope s.heap.objs.size f cdv)) → sp vs H Q E →
      ∃ t, PSs (cxOf CX P w K mg base N qual scope f cdv A outer s H E) body t ∧ t { nx := fun _ H' => Q .non H', rt := Q } (start N vs) H) :
    FnOk P w K mg base CX (k + 1) f (PySem.W.fnOf name qual params body scope dV kV doc pm an cdv ct) ps sp := by
  refine ⟨len, fun A outer s H args us vs Q E hr e0 hb r hsp => ?_⟩
  have hl := len _ _ _ _ hsp
  have KX : K.In s.heap := e0.mod.kin.keeps fun b o e => (e0.bs b o e).1
  have lim : s.heap.NoLimit := e0.mod.nolimit.keeps fun b o e => (e0.bs b o e).1
  have hkind : ∀ y ∈ ps.zip us, scope.names.lookup y.1 = some .local ∨ (scope.names.lookup y.1 = some .cell ∧ ((cellsFrom (s.heap.objs.size + 1) scope.names []).lookup y.1).isSome = true) := fun ⟨n, v⟩ hy => by
    rcases S.par n (List.of_mem_zip hy).1 with q | q
    · exact .inl q
    · exact .inr ⟨q, PySem.W.cellsFrom_some _ _ _ (.inl q)⟩
  refine codeAny_call_function hr.depth (KX _ _ lk) rfl S.co S.gen rfl (PySem.W.codeRec_of KX hcd) (hb _ _ _ _ ?_)
  refine wpAny_newFunctionEnv_cells S.kind hkind fun env he s1 x => ?_
  subst he
  refine ⟨lim.keeps x.toInCall.keep, codeAny_func ?_⟩
  obtain ⟨t, ht, hq⟩ := hbody A outer s H vs Q E (hr.deeper _) hsp
  have I : Inv (cxOf CX P w K mg base N qual scope f cdv A outer s H E) [] (start N vs) H s1 := inv_start S hr.hd e0 hl r x
  refine wpAny_mono (ht [] s1 (start N vs) H _ I hq) (fun fl s' hs => ?_) fun e s' hs => hs
  have fin : ∀ {σ' : St} {H' : Hp} {v : V} {u : Value}, Inv (cxOf CX P w K mg base N qual scope f cdv A outer s H E) [] σ' H' s' → RelV v u → Q v H' → CE outer P w H s Q u s' :=
    fun {σ' H' v u} J rv q => ⟨v, H', J.os, J.bare, J.base, J.hok, rv, q⟩
  cases fl with
  | ret u =>
    obtain ⟨v, σ', H', J, rv, q⟩ := hs
    exact fin J rv q
  | next =>
    obtain ⟨σ', H', J, q⟩ := hs
    exact fin (v := V.non) (u := Value.none) J rfl q
  | brk =>
    obtain ⟨_, _, _, q⟩ := hs
    exact False.elim q
  | cont =>
    obtain ⟨_, _, _, q⟩ := hs
    exact False.elim q
end L2

namespace L2
open PySem PySem.Spec PyProof.Rows
section
variable {X : Cx} {x : Str} {p pos : Pos} {e : Expr} {es : List Expr} {t : TA} {id T : String} {r : List V → Hp → VK → Prop}

def tCB (r : List V → Hp → VK → Prop) (t : TA) : TE := fun σ H Q => t σ H fun vs H1 => r vs H1 Q
/-- f(e, ..), f a built-in function -/
theorem pe_callB (hc : CallR X (.builtin id) r) (hg : Gl X x) (hm : X.mg x = none) (hv : bootBuiltins x = some (.builtin id)) (ha : PA X (e :: es) t) (hn : x ≠ "__name__" := by decide) (hdb : (x == ("__debug__" : Str)) = false := by decide)
    (he : starEach (e :: es) X.env = (false, eval e X.env) :: starEach es X.env := by rfl) (hpl : (backTo pos (starEach es X.env)).any (·.1) = false := by rfl) : PE X (.Call (.Name x p) (e :: es) [] pos) (tCB r t) := by
  intro pins s σ H Q I h
  refine wpAny_Call_Name_kw (ld_blt I hg hm hv ?_ hn hdb)
  exact PyProof.Rows.callWith_builtin1 (thn (ha pos pins s σ H _ I h) fun us s1 ⟨vs, H1, I1, r1, q1⟩ => hc pins s1 σ H1 vs us Q I1 r1 q1) he hpl
end
end L2

namespace HT
open PySem PyProof.Rows

section
open PySem.SeqAt
open PySem.AutoSeq1 (wpAny_loadPart')
open PySem.MeetsSeq PySem.MeetsSeq2 PySem.MeetsSeq3

end

section
variable {prog : Program} {w : World} {A : Around} {E : Value → Shared → Prop} {s : Shared}

/-- a slice's bound as a place among n (d where it is left out) -/
def sIx (n d : Nat) : Option Int → Nat
  | none => d
  | some v => if v < 0 then (v + (n : Int)).toNat else min v.toNat n
theorem sIx_nat (n d k : Nat) : sIx n d (some (k : Int)) = min k n := by
  show (if (k : Int) < 0 then ((k : Int) + (n : Int)).toNat else min (k : Int).toNat n) = min k n
  rw [if_neg (by omega), Int.toNat_natCast]
end
end HT

namespace L2
open PySem PySem.Spec PyProof.Rows

abbrev TO := St → Hp → (Option Int → Hp → Prop) → Prop
/-- a slice's part (left out, or an int) -/
def PO (X : Cx) (e : Option Expr) (t : TO) : Prop :=
  ∀ (pins : List (Addr × Obj)) (s : Shared) (σ : St) (H : Hp) (Q : Option Int → Hp → Prop), Inv X pins σ H s → t σ H Q →
    wpAny (model X.prog X.w) X.A (evalPart e X.env) (fun u s' => ∃ o H', Inv X pins σ H' s' ∧ IsPart u o ∧ Q o H') X.xe s
def tPart (t : TE) : TO := fun σ H Q => t σ H fun x H1 => ∃ i, x = .int i ∧ Q (some i) H1

section
variable {X : Cx} {e : Expr} {te : TE} {lo hi : Option Expr} {tl th : TO} {pos p2 : Pos}

theorem po_some (h : PE X e te) : PO X (some e) (tPart te) := by
  intro pins s σ H Q I hw
  rw [evalPart_some]
  refine thn (h pins s σ H _ I hw) fun u s1 ⟨x, H1, I1, r1, q1⟩ => ?_
  obtain ⟨i, rfl, q⟩ := q1
  obtain ⟨t, rfl⟩ := r1
  exact ⟨some i, H1, I1, .int i t, q⟩

/-- what a slice of a value is, by values: the slice object stands at sl -/
def SlR (X : Cx) (r : V → Option Int → Option Int → Hp → VK → Prop) : Prop :=
  ∀ (pins : List (Addr × Obj)) (s : Shared) (σ : St) (H : Hp) (x : V) (v vl vu : Value) (lo hi : Option Int) (sl : Addr) (Q : VK), Inv X pins σ H s → RelV x v → s.heap.IsSliceOf sl vl vu .none → IsPart vl lo → IsPart vu hi → r x lo hi H Q →
    ∃ T id, typeLookup (.type T) "__getitem__" = pure (some (.builtin id)) ∧ s.TypeIs v T ∧ wpAny (model X.prog X.w) X.A (getItem v (.ref sl)) (EP X pins σ Q) X.xe s
def tSl (r : V → Option Int → Option Int → Hp → VK → Prop) (te : TE) (tl th : TO) : TE := fun σ H Q => te σ H fun x H1 => tl σ H1 fun l H2 => th σ H2 fun u H3 => r x l u H3 Q
/-- a[lo:hi], any a -/
theorem pe_slice {r : V → Option Int → Option Int → Hp → VK → Prop} (hr : SlR X r) (he : PE X e te) (hl : PO X lo tl) (hu : PO X hi th) : PE X (.Subscript e (.Slice lo hi none p2) pos) (tSl r te tl th) := by
  intro pins s σ H Q I h
  refine Subscript_ (thn (he pins s σ H _ I h) fun v s1 ⟨x, H1, I1, r1, q1⟩ => ?_)
  refine wpAny_Slice (thn (hl pins s1 σ H1 _ I1 q1) fun vl s2 ⟨l, H2, I2, pl, q2⟩ => thn (hu pins s2 σ H2 _ I2 q2) fun vu s3 ⟨u, H3, I3, pu, q3⟩ => ?_)
  rw [evalPart_none]
  refine wpAny_pure ?_
  have I4 : Inv X pins σ H3 { s3 with heap := s3.heap.push { cls := .type "slice", data := .fields #[vl, vu, .none] } } := I3.kept (t' := s3.toks) fun b ob q => Heap.get?_push_of_some _ q
  obtain ⟨T, id, hT, ht, hg⟩ := hr pins { s3 with heap := s3.heap.push { cls := .type "slice", data := .fields #[vl, vu, .none] } } σ H3 x v vl vu l u s3.heap.objs.size Q I4 r1 (Heap.IsSliceOf.new ..) pl pu q3
  show wpAny (model X.prog X.w) X.A (subscriptTail e (.Slice lo hi none p2) v (.ref s3.heap.objs.size)) (EP X pins σ Q) X.xe { s3 with heap := s3.heap.push { cls := .type "slice", data := .fields #[vl, vu, .none] } }
  exact tail_any (ops := [.ref s3.heap.objs.size, v]) ht hT hg (by with_unfolding_all rfl)

/-- the items of xs[lo:hi] -/
def cutV (xs : List V) (lo hi : Option Int) : List V := (xs.drop (HT.sIx xs.length 0 lo)).take (HT.sIx xs.length xs.length hi - HT.sIx xs.length 0 lo)
theorem cutV_length (xs : List V) (lo hi : Option Int) : (cutV xs lo hi).length ≤ xs.length := by
  unfold cutV
  rw [List.length_take, List.length_drop]
  omega
end
end L2

namespace L2
open PySem PySem.Spec PyProof.Rows

/-- the place that an index of any sign means -/
def ixN (n : Nat) (i : Int) : Option Nat := if 0 ≤ i then (if i < n then some i.toNat else none) else if -(n : Int) ≤ i then some (i + n).toNat else none
def atI {α : Type} (xs : List α) (i : Int) : Option α := (ixN xs.length i).bind fun j => xs[j]?
theorem ixN_seq {n : Nat} {i : Int} {j : Nat} (h : ixN n i = some j) : seqIndex? i n = some j ∧ j < n ∧ -(n : Int) ≤ i ∧ i < n := by
  unfold ixN at h
  by_cases h0 : 0 ≤ i
  · rw [if_pos h0] at h
    by_cases h1 : i < n
    · rw [if_pos h1] at h
      have e : i.toNat = j := Option.some.inj h
      exact ⟨by rw [seqIndex_of h0 h1, e], by omega, by omega, h1⟩
    · rw [if_neg h1] at h; cases h
  · rw [if_neg h0] at h
    by_cases h1 : -(n : Int) ≤ i
    · rw [if_pos h1] at h
      have e : (i + n).toNat = j := Option.some.inj h
      exact ⟨by rw [seqIndex_neg (by omega) h1, e], by omega, h1, by omega⟩
    · rw [if_neg h1] at h; cases h
theorem atI_get {α : Type} {xs : List α} {i : Int} {v : α} (h : atI xs i = some v) : ∃ j, seqIndex? i xs.length = some j ∧ xs[j]? = some v ∧ j < xs.length ∧ -(xs.length : Int) ≤ i ∧ i < xs.length := by
  unfold atI at h
  cases e : ixN xs.length i with
  | none => rw [e] at h; cases h
  | some j =>
    rw [e] at h
    obtain ⟨h1, h2, h3, h4⟩ := ixN_seq e
    exact ⟨j, h1, h, h2, h3, h4⟩
/-- what stands as an index of a plain subscript -/
def PlainIx (b : Expr) : Prop := ∀ o i, subscripted b false o i = operate [o, i] (getItem o i)
/-- a subscript by values -/
def IxR (X : Cx) (r : R2) : Prop :=
  ∀ (value slice : Expr) (pins : List (Addr × Obj)) (s : Shared) (σ : St) (H : Hp) (x y : V) (v u : Value) (Q : VK), Inv X pins σ H s → RelV x v → RelV y u → r x y H Q →
    subscripted slice false v u = operate [v, u] (getItem v u) → wpAny (model X.prog X.w) X.A (subscriptTail value slice v u) (EP X pins σ Q) X.xe s
/-- a call of a builtin's method by values: the receiver, the arguments -/
def MtR (X : Cx) (id : String) (r : V → List V → Hp → VK → Prop) : Prop :=
  ∀ (pins : List (Addr × Obj)) (s : Shared) (σ : St) (H : Hp) (x : V) (xs : List V) (v : Value) (us : List Value) (Q : VK), Inv X pins σ H s → RelV x v → Vals xs us → r x xs H Q →
    wpAny (model X.prog X.w) X.A (call (.builtin id) (v :: us)) (EP X pins σ Q) X.xe s
section
variable {X : Cx} {a b : Expr} {ta tb : TE} {pos : Pos}
/-- a[b] -/
theorem pe_ix {r : R2} (hr : IxR X r) (ha : PE X a ta) (hb : PE X b tb) (hs : PlainIx b) : PE X (.Subscript a b pos) (tOp r ta tb) := by
  intro pins s σ H Q I h
  exact Subscript_ (binT ha hb I h fun v u s2 x y H2 I2 rx ry q => hr a b pins s2 σ H2 x y v u Q I2 rx ry q (hs _ _))

def rIxL (K : PySem.W.Frag) : R2 := fun x y H Q => ∃ p xs i v, x = .ref p ∧ y = .int i ∧ SqL K H p xs ∧ atI xs i = some v ∧ Q v H
theorem ix_list : IxR X (rIxL X.K) := by
  intro value slice pins s σ H x y v u Q I rx ry h hs
  obtain ⟨p, xs, i, z, rfl, rfl, hq, he, q⟩ := h
  cases rx
  obtain ⟨t, rfl⟩ := ry
  obtain ⟨its, r, pl, hz⟩ := I.list hq
  obtain ⟨j, h1, h2, h3, h4, h5⟩ := atI_get he
  obtain ⟨w, ew, rw'⟩ := r.get h2
  have hl := r.length
  have hn := line63
  have fin : EP X pins σ Q w s := ⟨z, H, I, rw', q⟩
  by_cases h0 : 0 ≤ i
  · have hj : i.toNat = j := by
      rw [seqIndex_of h0 h5] at h1
      exact Option.some.inj h1
    exact item_listR pl.isList h0 (by omega) (by rw [hj]; simpa using ew) fin hs
  · have hj : (i + (its.toArray.size : Int)).toNat = j := by
      rw [seqIndex_neg (by omega) h4] at h1
      rw [List.size_toArray, ← hl]
      exact Option.some.inj h1
    exact subscriptTail_builtinR (x := w) pl.isList.typeIs slot_list_getitem.lookup
      (wpAny_getItem_list_neg (Q := fun r s' => r = w ∧ EP X pins σ Q r s') pl.isList (by omega) (by rw [List.size_toArray] <;> omega) (by omega) (by rw [hj]; simpa using ew) ⟨rfl, fin⟩) hs
theorem slice_bounds (lo hi : Option Int) (n : Nat) : (sliceBounds lo hi none n).1 = ((HT.sIx n 0 lo : Nat) : Int) ∧ (sliceBounds lo hi none n).2.1 = ((HT.sIx n n hi : Nat) : Int) ∧ (sliceBounds lo hi none n).2.2 = 1 := by
  refine ⟨?_, ?_, rfl⟩
  · cases lo with
    | none => simp [sliceBounds, HT.sIx]
    | some i =>
      simp only [sliceBounds, HT.sIx, Option.getD_none, show (1 : Int) > 0 by decide, if_true]
      by_cases h : i < 0
      · simp only [h, if_true] <;> omega
      · simp only [h, if_false] <;> omega
  · cases hi with
    | none => simp [sliceBounds, HT.sIx]
    | some i =>
      simp only [sliceBounds, HT.sIx, Option.getD_none, show (1 : Int) > 0 by decide, if_true]
      by_cases h : i < 0
      · simp only [h, if_true] <;> omega
      · simp only [h, if_false] <;> omega
theorem slicePick_cut (its : List Value) (lo hi : Option Int) : slicePick its.toArray lo hi none = ((its.drop (HT.sIx its.length 0 lo)).take (HT.sIx its.length its.length hi - HT.sIx its.length 0 lo)).toArray := by
  obtain ⟨h1, h2, h3⟩ := slice_bounds lo hi its.toArray.size
  unfold slicePick
  rw [h1, h2, h3]
  simp only [sliceRange_one, pick_run, List.size_toArray] <;> rfl
/-- xs[lo:hi] of a list: a new list -/
def rSlL (K : PySem.W.Frag) : V → Option Int → Option Int → Hp → VK → Prop := fun x lo hi H Q => ∃ a xs, x = .ref a ∧ SqL K H a xs ∧ ∀ p, H p = none → Q (.ref p) (upd H p (.lst (cutV xs lo hi)))
theorem sl_list : SlR X (rSlL X.K) := by
  intro pins s σ H x v vl vu lo hi sl Q I rx hs pl pu h
  obtain ⟨a, xs, rfl, hx, q⟩ := h
  cases rx
  obtain ⟨its, r, ht, hz⟩ := I.list hx
  have hlen := r.length
  refine ⟨"list", _, slot_list_getitem.lookup, ht.isList.typeIs, ?_⟩
  refine wpAny_getItem_list_slice ht.isList hs pl pu .none (by simp) ?_ (by rw [List.size_toArray] <;> omega)
  rw [slicePick_cut, ← hlen]
  refine ⟨.ref s.heap.objs.size, _, I.laid (t' := s.toks) (o := .lst (cutV xs lo hi)) (fun b ob q => Heap.get?_push_of_some _ q) (Nat.le_refl _) ?_, rfl, q _ (I.hok.fresh (Nat.le_refl _))⟩
  exact ⟨Nat.le_trans (cutV_length xs lo hi) hz, _, 0, (r.drop (HT.sIx xs.length 0 lo)).take (HT.sIx xs.length xs.length hi - HT.sIx xs.length 0 lo), Heap.get?_push_size _ rfl⟩

theorem call_len_seq : CallR X (.builtin "len") (fun xs H Q => ∃ p ys, xs = [.ref p] ∧ (SqL X.K H p ys ∨ SqT X.K H p ys) ∧ Q (.int ys.length) H) := by
  intro pins s σ H xs us Q I r h
  obtain ⟨p, ys, rfl, hq, q⟩ := h
  obtain ⟨u, rfl, rx⟩ := vals1 r
  cases rx
  have hn := line63
  rcases hq with hq | hq
  · obtain ⟨its, r', pl, hz⟩ := I.list hq
    have hlen := r'.length
    exact Calls.call_len_list pl.isList (by simp only [List.size_toArray] <;> omega) ⟨.int ys.length, H, I.tok _, ⟨s.toks + 1, by rw [List.size_toArray, hlen]⟩, q⟩
  · obtain ⟨its, r', pl, hz⟩ := I.tuple hq
    have hlen := r'.length
    exact len_tuple pl (by simp only [List.size_toArray] <;> omega) ⟨.int ys.length, H, I.tok _, ⟨s.toks + 1, by rw [List.size_toArray, hlen]⟩, q⟩
/-- the value is of that builtin type -/
def tyV (K : PySem.W.Frag) (T : String) (x : V) (H : Hp) : Prop := match x with
  | .str _ => T = "str"
  | .int _ => T = "int"
  | .ref p => (T = "list" ∧ ∃ xs, SqL K H p xs) ∨ (T = "tuple" ∧ ∃ o, K.lookup p = some o ∧ o.cls = .type "tuple" ∧ o.dict = none) ∨
      (T = "dict" ∧ ((∃ kvs, H p = some (.dK kvs)) ∨ ∃ kvs, H p = some (.dT kvs))) ∨ (T = "set" ∧ ∃ S n, H p = some (.set S n))
  | _ => False
theorem tyV_is {pins : List (Addr × Obj)} {σ : St} {H : Hp} {s : Shared} {T : String} {x : V} {v : Value} (I : Inv X pins σ H s) (r : RelV x v) (ty : tyV X.K T x H) :
    s.TypeIs v T ∧ ∀ a, v = .ref a → ∃ ob, s.heap.get? a = some ob ∧ ob.dict = none := by
  cases x with
  | str z =>
    obtain ⟨t, rfl⟩ := r
    cases (show T = "str" from ty)
    exact ⟨typeIs_str s z t, fun _ e => nomatch e⟩
  | int i =>
    obtain ⟨t, rfl⟩ := r
    cases (show T = "int" from ty)
    exact ⟨typeIs_int s i t, fun _ e => nomatch e⟩
  | ref p =>
    cases r
    rcases ty with ⟨rfl, xs, hq⟩ | ⟨rfl, o, hk, hc, hd⟩ | ⟨rfl, hk⟩ | ⟨rfl, S, n, hk⟩
    · obtain ⟨its, _, pl, _⟩ := I.list hq
      refine ⟨pl.isList.typeIs, fun a e => ?_⟩
      cases e
      obtain ⟨o, n, e, c, hd, _⟩ := pl
      exact ⟨o, e, hd⟩
    · refine ⟨⟨o, I.kIn p o hk, hc⟩, fun a e => ?_⟩
      cases e
      exact ⟨o, I.kIn _ o hk, hd⟩
    · have z : ∃ o, s.heap.get? p = some o ∧ o.ExactDict := by
        rcases hk with ⟨kvs, hk⟩ | ⟨kvs, hk⟩
        · obtain ⟨_, _, _, _, o, _, _, e, ex, _⟩ := I.hok p _ hk
          exact ⟨o, e, ex⟩
        · obtain ⟨_, _, _, _, o, _, _, e, ex, _⟩ := I.hok p _ hk
          exact ⟨o, e, ex⟩
      obtain ⟨o, e, ex⟩ := z
      refine ⟨⟨o, e, ex.1⟩, fun a e2 => ?_⟩
      cases e2
      exact ⟨o, e, ex.2.1⟩
    · obtain ⟨o, _, _, _, e, ex, _⟩ := I.hok p _ hk
      refine ⟨⟨o, e, ex.1⟩, fun a e2 => ?_⟩
      cases e2
      exact ⟨o, e, ex.2.1⟩
  | _ => exact False.elim ty
def tBM (K : PySem.W.Frag) (T : String) (r : V → List V → Hp → VK → Prop) (to : TE) (t : TA) : TE := fun σ H Q => to σ H fun x H1 => tyV K T x H1 ∧ t σ H1 fun xs H2 => r x xs H2 Q
variable {o e : Expr} {es : List Expr} {to : TE} {t : TA} {name : Str} {apos cpos : Pos} {T id : String} {r : V → List V → Hp → VK → Prop}
theorem pe_bm (pa : PlainAttrs T) (slot : Slot T name id) (hty : typeOf (.builtin id) = pure (.type "method_descriptor")) (hm : MtR X id r) (ho : PE X o to) (ha : PA X (e :: es) t)
    (hbase : attributeBase o name X.env (eval o X.env) = eval o X.env := by rfl)
    (hfew : ((backTo cpos (starEach (e :: es) X.env)).all (fun x => !x.1) && (backToKw cpos (keywordEach [] X.env)).all (fun x => x.1.isSome)
      && decide ((e :: es).length + ([] : List Keyword).length + (if ([] : List Keyword).isEmpty then 0 else 1) < 30)) = true := by rfl)
    (hline : (apos.endLine == cpos.line) = true := by rfl) (hs : starEach (e :: es) X.env = (false, eval e X.env) :: starEach es X.env := by rfl) (hplain : (backTo cpos (starEach es X.env)).any (·.1) = false := by rfl) :
    PE X (.Call (.Attribute o name apos) (e :: es) [] cpos) (tBM X.K T r to t) := by
  intro pins s σ H Q I h
  refine wpAny_Call_method_late hbase hfew hline rfl (thn (ho pins s σ H _ I h) fun v s1 ⟨x, H1, I1, r1, ty, q1⟩ => ?_)
  obtain ⟨h1, h2⟩ := tyV_is I1 r1 ty
  refine ⟨T, id, pa, slot, hty, h1, h2, ?_⟩
  have hA := ha cpos pins s1 σ H1 _ I1 q1
  rw [hs] at hA ⊢
  refine Calls.callWith_builtin (by show (false || (backTo cpos (starEach es X.env)).any (·.1)) = false; rw [hplain] <;> rfl) (Calls.evalArgs_plain ?_)
  exact thn hA fun us s2 ⟨vs, H2, I2, r2, q2⟩ => hm pins s2 σ H2 x vs v us Q I2 r1 r2 q2
/- xs.append(e), list.index on a module's tuple .. are MtR facts of 06m -/
end
end L2

namespace L2
open PySem PySem.Spec PyProof.Rows

def MtM (X : Cx) (id : String) (r : V → List V → Hp → VK → Prop) : Prop :=
  ∀ (pins : List (Addr × Obj)) (s : Shared) (σ : St) (H : Hp) (x : V) (xs : List V) (v : Value) (us : List Value) (Q : VK), Inv X pins σ H s → RelV x v → Vals xs us → r x xs H Q →
    wpAny (model X.prog X.w) X.A (call (.builtin id) (v :: us)) (EP X pins σ Q) X.xe s

theorem Vals.one : ∀ {x : V} {us : List Value}, Vals [x] us → ∃ u, us = [u] ∧ RelV x u
  | _, _, .cons r .nil => ⟨_, rfl, r⟩
section
variable {X : Cx} {pins : List (Addr × Obj)} {σ : St} {H : Hp} {s : Shared} {l b : Addr} {xs ys zs : List V}

theorem Inv.lset {its its' : List Value} {n : Nat} {f : Array Value → Array Value} {t' : Nat} (I : Inv X pins σ H s) (hH : H l = some (.lst xs))
    (e : s.heap.get? l = some { cls := .type "list", data := .seq its.toArray n }) (hf : f its.toArray = its'.toArray) (hv : Vals ys its') (hz : ys.length ≤ sizeLine) :
    Inv X pins σ (upd H l (.lst ys)) { s with heap := s.heap.update l (Obj.mapSeq f), toks := t' } := by
  have q := PySem.IsL.update e f
  rw [hf] at q
  refine I.write (x := l) (e := l) (by rw [hH]; exact trivial) (.inl rfl) (fun b' u hb hu => (Heap.get?_update_other s.heap (Obj.mapSeq f) (Ne.symm hb)).trans hu) ⟨_, q⟩ ?_
  exact ⟨hz, its', _, hv, q⟩
theorem Inv.lnew {its : List Value} {t' : Nat} (I : Inv X pins σ H s) (hv : Vals ys its) (hz : ys.length ≤ sizeLine) :
    Inv X pins σ (upd H s.heap.objs.size (.lst ys)) { s with heap := s.heap.push { cls := .type "list", data := .seq its.toArray }, toks := t' } :=
  I.laid (fun _ _ q => Heap.get?_push_of_some _ q) (Nat.le_refl _) ⟨hz, its, 0, hv, Heap.get?_push_size _ rfl⟩
theorem Inv.fresh (I : Inv X pins σ H s) : H s.heap.objs.size = none := I.hok.fresh (Nat.le_refl _)
theorem Inv.lstM (I : Inv X pins σ H s) (hH : H l = some (.lst xs)) : xs.length ≤ sizeLine ∧ ∃ (its : List Value) (n : Nat), Vals xs its ∧ xs.length = its.length ∧ s.heap.get? l = some { cls := .type "list", data := .seq its.toArray n } := by
  obtain ⟨z, its, n, r, e⟩ := I.hok l _ hH
  exact ⟨z, its, n, r, r.length, e⟩

theorem notLongL {n : Nat} (h : n ≤ sizeLine) : Builtin.List.listTooLong n = false := by
  unfold Builtin.List.listTooLong
  exact decide_eq_false (by omega)
end

section
variable {X : Cx}

def rExtend : V → List V → Hp → VK → Prop := fun x vs H Q => ∃ l b xs zs, x = .ref l ∧ vs = [.ref b] ∧ H l = some (.lst xs) ∧ H b = some (.lst zs) ∧ xs.length + zs.length ≤ sizeLine ∧ Q .non (upd H l (.lst (xs ++ zs)))
theorem mt_extend : MtM X "list.extend" rExtend := by
  intro pins s σ H x vs v us Q I rx rv h
  obtain ⟨l, b, xs, zs, rfl, rfl, hH, hB, hz, q⟩ := h
  cases rx
  obtain ⟨u, rfl, ru⟩ := rv.one
  cases ru
  obtain ⟨z, its, n, r, hl, e⟩ := I.lstM hH
  obtain ⟨z2, its2, n2, r2, hl2, e2⟩ := I.lstM hB
  have hsz : its.toArray.size + its2.toArray.size ≤ sizeLine := by rw [List.size_toArray, List.size_toArray]; omega
  have hlong : ¬ (!its.toArray.isEmpty && Builtin.List.listTooLong (its.toArray.size + its2.toArray.size)) = true := by
    rw [notLongL hsz, Bool.and_false]
    exact Bool.false_ne_true
  refine call_meets F.slot_list_extend ⟨_, e, rfl⟩ F.entry_list_extend (F.args_list_extend_2 _ _)
    (AutoSeq1.list_extend_list_list_0 l its.toArray n b its2.toArray n2 hlong (by rw [List.size_toArray]; omega) (by omega)) ⟨e, e2, ?_⟩
  refine ⟨.non, _, I.lset (its' := its ++ its2) hH e (by simp) (r.append r2) ?_, rfl, q⟩
  rw [List.length_append]
  omega

def rCat : R2 := fun x y H Q => ∃ l b xs zs, x = .ref l ∧ y = .ref b ∧ H l = some (.lst xs) ∧ H b = some (.lst zs) ∧ xs.length + zs.length ≤ sizeLine ∧ ∀ p, H p = none → Q (.ref p) (upd H p (.lst (xs ++ zs)))
theorem op_cat : OpR X (binaryOp .Add) rCat := by
  intro pins s σ H x y v u Q I rx ry h
  obtain ⟨l, b, xs, zs, rfl, rfl, hH, hB, hz, q⟩ := h
  cases rx
  cases ry
  obtain ⟨z, its, n, r, hl, e⟩ := I.lstM hH
  obtain ⟨z2, its2, n2, r2, hl2, e2⟩ := I.lstM hB
  refine PySem.P.add_list e e2 ?_ (by rw [List.size_toArray, List.size_toArray]; omega)
  have ea : its.toArray ++ its2.toArray = (its ++ its2).toArray := by simp
  rw [ea]
  exact ⟨.ref _, _, I.lnew (t' := s.toks) (r.append r2) (by rw [List.length_append]; omega), rfl, q _ I.fresh⟩
end

section
variable {prog : Program} {w : World} {A : Around} {E : Value → Shared → Prop} {s : Shared}
end

section
variable {X : Cx}
end
end L2

namespace L2
open PySem PySem.Spec PyProof.Rows

theorem Vals.bls : ∀ {bs : List Bool} {us : List Value}, Vals (bs.map V.bl) us → us = bs.map Value.bool
  | [], us, h => by
    rw [List.map_nil] at h
    cases h
    rfl
  | b :: bs, us, h => by
    rw [List.map_cons] at h
    cases h with
    | cons r t =>
      cases r
      rw [Vals.bls t, List.map_cons]
theorem Vals.ref1 {a : Addr} {us : List Value} (r : Vals [V.ref a] us) : us = [Value.ref a] := by
  cases r with
  | cons r t =>
    cases t
    cases r
    rfl
section
variable {prog : Program} {w : World} {A : Around} {E : Value → Shared → Prop} {s : Shared} {l : Addr} {its : List Value} {ns : List Int} {Q : Value → Shared → Prop}
end

section
variable {X : Cx}
end

section
variable {X : Cx}
end

section
variable {X : Cx}
end

theorem iter_any {prog : Program} {w : World} {A : Around} {E : Value → Shared → Prop} {s : Shared} {l : Addr} {items : Array Value} {Q : Value → Shared → Prop} (hl : s.heap.IsList l items)
    (h : ∀ s₂ : Shared, s₂ = { s with heap := s.heap.push { cls := .type "list_iterator", data := .fields #[.ref l, .int 0 0] } } →
      (s₂.heap.IsListIter s.heap.objs.size l 0 ∧ s₂.heap.IsList l items) → l ≠ s.heap.objs.size → Q (.ref s.heap.objs.size) s₂) : wpAny (model prog w) A (pyIter (.ref l)) Q E s := by
  have hlt : l < s.heap.objs.size := by obtain ⟨_, e, _⟩ := hl; exact Heap.lt_size e
  exact wpAny_pyIter_list hl (h _ rfl ⟨⟨_, Heap.get?_push_size _ rfl, rfl, rfl⟩, hl.push _⟩ (Nat.ne_of_lt hlt))
theorem truth_bools {prog : Program} {w : World} {A : Around} {bs : List Bool} {its : List Value} (e : its = bs.map Value.bool) :
    TruthOf prog w A (fun i v => its.toArray[i]? = some v) (fun i => bs.getD i false) := fun i v s Q E hv hq => by
  have hv' : its[i]? = some v := by simpa using hv
  rw [e, List.getElem?_map] at hv'
  obtain ⟨b, hb, rfl⟩ := Option.map_eq_some_iff.mp hv'
  have hg : bs.getD i false = b := by rw [List.getD_eq_getElem?_getD, hb] <;> rfl
  have hq' : Q (bs.getD i false) s := hq
  rw [hg] at hq'
  exact wpAny_truthy_bool hq'
theorem all_range : ∀ bs : List Bool, (List.range bs.length).all (fun i => bs.getD i false) = bs.all id
  | [] => rfl
  | b :: bs => by
    rw [List.length_cons, List.range_succ_eq_map, List.all_cons, List.all_map, List.all_cons, ← all_range bs]
    all_goals rfl
section
variable {X : Cx}
def rAll (K : PySem.W.Frag) : List V → Hp → VK → Prop := fun vs H Q => ∃ (a : Addr) (bs : List Bool), vs = [V.ref a] ∧ SqL K H a (bs.map V.bl) ∧ Q (.bl (bs.all id)) H
theorem cr_all (hc : X.calm = true) : CallR X (.builtin "all") (rAll X.K) := by
  intro pins s σ H vs us Q I r h
  obtain ⟨a, bs, rfl, hs, q⟩ := h
  obtain ⟨its, rv, hl, _⟩ := I.list hs
  rw [Vals.ref1 r]
  have hb := rv.bls
  refine call_all_walk (iter_any hl.isList fun s₂ e2 st hne => ?_)
  subst e2
  refine ⟨_, _, _, _, _, _, _, rfl, Walks.list (A := X.A.in1) (I.ok.hd hc) _ a hne its.toArray, st, truth_bools hb, fun h' tk hk => ?_⟩
  refine ⟨.bl _, H, I.kept fun b o eo => hk b o (fun hmem => ?_) (Heap.get?_push_of_some _ eo), ?_, q⟩
  · rcases List.mem_cons.mp hmem with e1 | hmem
    · exact absurd (e1 ▸ Heap.lt_size eo) (Nat.lt_irrefl _)
    · cases hmem
  · show Value.bool _ = Value.bool _
    rw [← all_range, hb, List.size_toArray, List.length_map]
end

section
variable {X : Cx} {pins : List (Addr × Obj)} {σ : St} {H : Hp} {s : Shared}
end
section
variable {X : Cx}
end
end L2

namespace L2
open PySem PySem.Spec PyProof.Rows
abbrev CellAt (h : Heap) (c : Addr) (v : Option Value) : Prop := h.IsCell c v
def relS (scope sc : Scope) : Scope :=
  { scope with names := scope.names.map fun (n, k) => if (k == .free && sc.kind == .function && sc.names.lookup n == some .cell) then (n, .cell) else (n, k) }

def cloFrom (cells : List (Str × Addr)) : List (Str × NameKind) → List (Str × Addr) → List (Str × Addr)
  | [], acc => acc
  | (n, k) :: r, acc => if k == .free then cloFrom cells r ((n, (cells.lookup n).getD 0) :: acc) else cloFrom cells r acc

theorem closure_loop (env : Env) (f : Str × NameKind → List (Str × Addr) → Sem (ForInStep (List (Str × Addr))))
    (hf : ∀ n k c, f (n, k) c = if k == .free then (do let a ← cellOf env n; pure (.yield ((n, a) :: c))) else pure (.yield c)) :
    ∀ (names : List (Str × NameKind)) (acc : List (Str × Addr)), (∀ y ∈ names, y.2 = .free → ∃ c, env.cells.lookup y.1 = some c) → forIn names acc f = pure (cloFrom env.cells names acc)
  | [], acc, _ => by rw [List.forIn_nil]; rfl
  | (n, k) :: r, acc, h => by
    rw [List.forIn_cons, hf]
    have ih := fun acc => closure_loop env f hf r acc fun y hy => h y (List.mem_cons_of_mem _ hy)
    unfold cloFrom
    by_cases hk : (k == NameKind.free) = true
    · rw [if_pos hk, if_pos hk]
      obtain ⟨c, hc⟩ := h (n, k) List.mem_cons_self (by simpa using hk)
      have e : cellOf env n = pure c := by unfold cellOf; rw [hc]
      rw [e]
      have e2 : (env.cells.lookup n).getD 0 = c := by rw [hc]; rfl
      rw [e2]
      exact ih _
    · rw [if_neg hk, if_neg hk]
      exact ih _
theorem closure_ok {scope : Scope} {env : Env} (h : ∀ y ∈ scope.names, y.2 = .free → ∃ c, env.cells.lookup y.1 = some c) : closureFor scope env = pure (cloFrom env.cells scope.names []) := by
  simp only [closureFor]
  rw [closure_loop env _ (fun n k c => rfl) scope.names [] h]
  rfl

theorem mem_lookup {α : Type} : ∀ {l : List (Str × α)} {n : Str} {c : α}, (n, c) ∈ l → ∃ c', l.lookup n = some c'
  | (k, v) :: r, n, c, h => by
    rw [List.lookup_cons]
    cases hb : n == k with
    | true => exact ⟨_, rfl⟩
    | false =>
      rcases List.mem_cons.mp h with e | h
      · cases e; simp at hb
      · exact mem_lookup h

theorem cloFrom_mem {cells : List (Str × Addr)} : ∀ {names : List (Str × NameKind)} {acc : List (Str × Addr)} {n : Str} {c : Addr}, (n, c) ∈ cloFrom cells names acc → (n, c) ∈ acc ∨ ((n, .free) ∈ names ∧ c = (cells.lookup n).getD 0)
  | [], _, _, _, h => .inl h
  | (m, k) :: r, acc, n, c, h => by
    unfold cloFrom at h
    split at h
    · rename_i hk
      have hk : k = .free := by simpa using hk
      rcases cloFrom_mem h with h | ⟨h1, h2⟩
      · rcases List.mem_cons.mp h with e | h
        · cases e; exact .inr ⟨hk ▸ List.mem_cons_self, rfl⟩
        · exact .inl h
      · exact .inr ⟨List.mem_cons_of_mem _ h1, h2⟩
    · rcases cloFrom_mem h with h | ⟨h1, h2⟩
      · exact .inl h
      · exact .inr ⟨List.mem_cons_of_mem _ h1, h2⟩
theorem cloFrom_acc {cells : List (Str × Addr)} : ∀ {names : List (Str × NameKind)} {acc : List (Str × Addr)} {p : Str × Addr}, p ∈ acc → p ∈ cloFrom cells names acc
  | [], _, _, h => h
  | (m, k) :: r, acc, p, h => by
    unfold cloFrom
    split
    · exact cloFrom_acc (List.mem_cons_of_mem _ h)
    · exact cloFrom_acc h
theorem cloFrom_has {cells : List (Str × Addr)} : ∀ {names : List (Str × NameKind)} {acc : List (Str × Addr)} {n : Str}, (n, .free) ∈ names → (n, (cells.lookup n).getD 0) ∈ cloFrom cells names acc
  | (m, k) :: r, acc, n, h => by
    unfold cloFrom
    rcases List.mem_cons.mp h with e | h
    · cases e
      exact cloFrom_acc List.mem_cons_self
    · split
      · exact cloFrom_has h
      · exact cloFrom_has h

theorem cells_mem : ∀ {names : List (Str × NameKind)} {h : Heap} {acc : List (Str × Addr)} {x : Str} {c : Addr}, (x, c) ∈ cellsFrom h.objs.size names acc →
    (x, c) ∈ acc ∨ ((x, .cell) ∈ names ∧ h.objs.size ≤ c ∧ CellAt (pushCells h names) c none)
  | [], _, _, _, _, h => .inl h
  | (n, k) :: r, h, acc, x, c, hm => by
    unfold cellsFrom at hm
    unfold pushCells
    split at hm
    · rename_i hk
      rw [if_pos hk]
      have hk : k = .cell := by simpa using hk
      rw [← Heap.size_push h { cls := .type "cell", data := .cell none }] at hm
      rcases cells_mem hm with hm | ⟨h1, h2, h3⟩
      · rcases List.mem_cons.mp hm with e | hm
        · cases e
          exact .inr ⟨hk ▸ List.mem_cons_self, Nat.le_refl _, _, pushCells_keeps r _ _ _ (Heap.get?_push_size _ rfl), rfl⟩
        · exact .inl hm
      · rw [Heap.size_push] at h2
        exact .inr ⟨List.mem_cons_of_mem _ h1, Nat.le_of_succ_le h2, h3⟩
    · rename_i hk
      rw [if_neg hk]
      rcases cells_mem hm with hm | ⟨h1, h2, h3⟩
      · exact .inl hm
      · exact .inr ⟨List.mem_cons_of_mem _ h1, h2, h3⟩
theorem cells_acc : ∀ {names : List (Str × NameKind)} {n : Nat} {acc : List (Str × Addr)} {p : Str × Addr}, p ∈ acc → p ∈ cellsFrom n names acc
  | [], _, _, _, h => h
  | (m, k) :: r, n, acc, p, h => by
    unfold cellsFrom
    split
    · exact cells_acc (List.mem_cons_of_mem _ h)
    · exact cells_acc h
theorem cells_has : ∀ {names : List (Str × NameKind)} {n : Nat} {acc : List (Str × Addr)} {x : Str}, (x, .cell) ∈ names → ∃ c, (x, c) ∈ cellsFrom n names acc
  | (m, k) :: r, n, acc, x, h => by
    unfold cellsFrom
    rcases List.mem_cons.mp h with e | h
    · cases e
      exact ⟨n, cells_acc List.mem_cons_self⟩
    · split
      · exact cells_has h
      · exact cells_has h
theorem cells_inj : ∀ {names : List (Str × NameKind)} {h : Heap} {acc : List (Str × Addr)} {x y : Str} {c : Addr}, (∀ p ∈ acc, p.2 < h.objs.size) → (∀ x y c, (x, c) ∈ acc → (y, c) ∈ acc → x = y) →
    (x, c) ∈ cellsFrom h.objs.size names acc → (y, c) ∈ cellsFrom h.objs.size names acc → x = y
  | [], _, _, _, _, _, _, hi, h1, h2 => hi _ _ _ h1 h2
  | (n, k) :: r, h, acc, x, y, c, hl, hi, h1, h2 => by
    unfold cellsFrom at h1 h2
    split at h1
    · rename_i hk
      rw [if_pos hk] at h2
      rw [← Heap.size_push h { cls := .type "cell", data := .cell none }] at h1 h2
      refine cells_inj (h := h.push _) (fun p hp => ?_) (fun x y c a b => ?_) h1 h2
      · rw [Heap.size_push]
        rcases List.mem_cons.mp hp with rfl | hp
        · exact Nat.lt_succ_self _
        · exact Nat.lt_succ_of_lt (hl p hp)
      · rcases List.mem_cons.mp a with e | a <;> rcases List.mem_cons.mp b with e' | b
        · cases e; cases e'; rfl
        · cases e; exact absurd (hl _ b) (Nat.lt_irrefl _)
        · cases e'; exact absurd (hl _ a) (Nat.lt_irrefl _)
        · exact hi _ _ _ a b
    · rename_i hk
      rw [if_neg hk] at h2
      exact cells_inj hl hi h1 h2

theorem newEnv_comp {M : Model} {A : Around} {E : Value → Shared → Prop} {s : Shared} {scope : Scope} {globals : Addr} {closure : List (Str × Addr)} {qual : Str} {func : Option Addr} {code : Value} {around : Env} {builtins : Addr} {Q : Env → Shared → Prop}
    (h : Q (newEnv scope s.heap.objs.size globals (cellsFrom (s.heap.objs.size + 1) scope.names closure) qual func code (some around) builtins)
      { s with heap := pushCells (s.heap.push { cls := .type "dict", data := .dict #[] }) scope.names }) :
    wpAny M A (newFunctionEnv scope globals closure [] qual func code (some around) builtins) Q E s := by
  simp only [newFunctionEnv, Option.isSome_some, if_true]
  refine wpAny_bind (wpAny_alloc ?_)
  refine wpAny_bind (wpAny_layCells _ (fun n k c => rfl) scope.names closure _ _ ?_)
  rw [show ({ s with heap := s.heap.push { cls := .type "dict", data := .dict #[] } } : Shared).heap.objs.size = s.heap.objs.size + 1 from Heap.size_push ..]
  rw [List.forIn_nil]
  exact wpAny_bind (wpAny_pure (wpAny_pure h))

/-- every name of the written scope, in the scope that runs -/
theorem lookup_relS {sc : Scope} : ∀ {names : List (Str × NameKind)} {x : Str} {k : NameKind},
    (names.map fun (n, k) => if (k == NameKind.free && sc.kind == .function && sc.names.lookup n == some .cell) then (n, NameKind.cell) else (n, k)).lookup x = some k →
    ∃ k', names.lookup x = some k' ∧ (k = k' ∨ (k' = .free ∧ k = .cell))
  | [], _, _, h => by simp at h
  | (n, k₀) :: r, x, k, h => by
    have ih := @lookup_relS sc r x k
    have h' : List.lookup x ((if (k₀ == NameKind.free && sc.kind == .function && sc.names.lookup n == some .cell) = true then (n, NameKind.cell) else (n, k₀)) :: (r.map _)) = some k := h
    cases hx : x == n with
    | true =>
      simp only [List.lookup_cons, hx]
      by_cases hc : (k₀ == NameKind.free && sc.kind == .function && sc.names.lookup n == some .cell) = true
      · rw [if_pos hc] at h'
        simp only [List.lookup_cons, hx] at h'
        cases h'
        simp only [Bool.and_eq_true, beq_iff_eq] at hc
        exact ⟨k₀, rfl, .inr ⟨hc.1.1, rfl⟩⟩
      · rw [if_neg hc] at h'
        simp only [List.lookup_cons, hx] at h'
        cases h'
        exact ⟨_, rfl, .inl rfl⟩
    | false =>
      simp only [List.lookup_cons, hx]
      by_cases hc : (k₀ == NameKind.free && sc.kind == .function && sc.names.lookup n == some .cell) = true
      · rw [if_pos hc] at h'
        simp only [List.lookup_cons, hx] at h'
        exact ih h'
      · rw [if_neg hc] at h'
        simp only [List.lookup_cons, hx] at h'
        exact ih h'
/-- the names of a comprehension's block: its own (with their places in N), or captured -/
structure BlkOk (N : List Str) (sc scope : Scope) (own : List (Str × Nat)) : Prop where
  kind : scope.kind = .function
  uniq : ∀ y ∈ scope.names, scope.names.lookup y.1 = some y.2
  ix : ∀ p ∈ own, N[p.2]? = some p.1
  free : ∀ y ∈ scope.names, y.2 = .free → sc.names.lookup y.1 = some .cell ∨ sc.names.lookup y.1 = some .free
  own : ∀ y ∈ scope.names, y.2 = .local ∨ y.2 = .cell → y.1 ∈ own.map (·.1) ∨ y.1 ∉ N
/-- the slots of the block's own names forgotten -/
def wipe (σ : St) : List Nat → St
  | [] => σ
  | v :: vs => (wipe σ vs).set v none
theorem wipe_length (σ : St) : ∀ vs : List Nat, (wipe σ vs).length = σ.length
  | [] => rfl
  | v :: vs => by unfold wipe; rw [List.length_set, wipe_length σ vs]
theorem wipe_some {σ : St} {i : Nat} {x : V} : ∀ {vs : List Nat}, (wipe σ vs)[i]? = some (some x) → σ[i]? = some (some x) ∧ i ∉ vs
  | [], h => ⟨h, by simp⟩
  | v :: vs, h => by
    unfold wipe at h
    by_cases hi : v = i
    · subst hi
      by_cases hv : v < (wipe σ vs).length
      · rw [List.getElem?_set_self hv] at h; cases h
      · rw [List.getElem?_eq_none (by simpa using hv)] at h; cases h
    · rw [List.getElem?_set_ne hi] at h
      obtain ⟨h1, h2⟩ := wipe_some h
      exact ⟨h1, by simp only [List.mem_cons, not_or]; exact ⟨fun e => hi e.symm, h2⟩⟩

/-- the context of a block that starts at s, its iterator's objects at fp -/
abbrev Cx.blk (X : Cx) (s : Shared) (H : Hp) (scope : Scope) (cenv : Env) (fp : List Addr) : Cx := { X with s_0 := s, H_0 := H, env := cenv, outer := X.stack, ex := fp, fn := fun x => scope.names.lookup x == some .cell, pn := [], xe := fun _ _ => False }
section
variable {X : Cx} {pins : List (Addr × Obj)} {σ : St} {H : Hp} {s : Shared}
theorem block_start {scope : Scope} {own : List (Str × Nat)} {fp : List Addr} (I : Inv X pins σ H s) (ok : BlkOk X.N X.env.scope scope own) (hN : X.N.Nodup) (hfp : ∀ b ∈ fp, FpOk X pins H b ∧ b < s.heap.objs.size) :
    Inv (X.blk s H scope (compEnvC scope (cellsFrom (s.heap.objs.size + 1) scope.names (cloFrom X.env.cells scope.names [])) s.heap.objs.size X.env) fp) [] (wipe σ (own.map (·.2))) H { s with heap := pushCells (s.heap.push { cls := .type "dict", data := .dict #[] }) scope.names } := by
  have hfree : ∀ y ∈ scope.names, y.2 = .free → ∃ c, X.env.cells.lookup y.1 = some c := fun y hy e => by
    rcases ok.free y hy e with k | k
    · exact I.ok.has _ (.inl k)
    · exact I.ok.has _ (.inr k)
  generalize hcenv : compEnvC scope (cellsFrom (s.heap.objs.size + 1) scope.names (cloFrom X.env.cells scope.names [])) s.heap.objs.size X.env = cenv
  have kp : ∀ b o, s.heap.get? b = some o → (pushCells (s.heap.push { cls := .type "dict", data := .dict #[] }) scope.names).get? b = some o := fun b o e => pushCells_keeps _ _ _ _ (Heap.get?_push_of_some _ e)
  have hL : cenv.locals = s.heap.objs.size := by rw [← hcenv]; rfl
  have hcl : cenv.cells = cellsFrom (s.heap.objs.size + 1) scope.names (cloFrom X.env.cells scope.names []) := by rw [← hcenv]; rfl
  have hsc : cenv.scope = relS scope X.env.scope := by rw [← hcenv]; rfl
  rw [← Heap.size_push s.heap { cls := .type "dict", data := .dict #[] }] at hcl
  have cm : ∀ {y c}, (y, c) ∈ cloFrom X.env.cells scope.names [] → X.env.cells.lookup y = some c ∧ c < s.heap.objs.size := fun {y c} hm => by
    rcases cloFrom_mem hm with hm | ⟨h1, rfl⟩
    · cases hm
    · obtain ⟨c, hc⟩ := hfree _ h1 rfl
      rw [hc]
      obtain ⟨w, z⟩ := I.cell _ _ hc
      exact ⟨rfl, z.lt⟩
  have mem : ∀ {y c}, cenv.cells.lookup y = some c → (X.env.cells.lookup y = some c ∧ c < s.heap.objs.size) ∨ (s.heap.objs.size + 1 ≤ c ∧ CellAt (pushCells (s.heap.push { cls := .type "dict", data := .dict #[] }) scope.names) c none) := fun {y c} e => by
    rw [hcl] at e
    rcases cells_mem (PySem.mem_of_lookup e) with hm | ⟨_, h2, h3⟩
    · exact .inl (cm hm)
    · rw [Heap.size_push] at h2; exact .inr ⟨h2, h3⟩
  have look : ∀ {y}, scope.names.lookup y = some .free → ∃ c, cenv.cells.lookup y = some c ∧ X.env.cells.lookup y = some c := fun {y} hl => by
    have hy : (y, NameKind.free) ∈ scope.names := PySem.mem_of_lookup hl
    obtain ⟨c', e'⟩ := mem_lookup (cells_acc (names := scope.names) (n := (s.heap.push { cls := .type "dict", data := .dict #[] }).objs.size) (cloFrom_has (cells := X.env.cells) (acc := []) hy))
    rw [← hcl] at e'
    refine ⟨c', e', ?_⟩
    rw [hcl] at e'
    rcases cells_mem (PySem.mem_of_lookup e') with hm | ⟨h1, _, _⟩
    · exact (cm hm).1
    · have := ok.uniq _ h1
      rw [hl] at this; cases this
  have okB : (X.blk s H scope cenv fp).Ok := by
    refine ⟨I.ok.mod, by show cenv.scope.kind = _; rw [hsc]; exact ok.kind, by show cenv.globals = _; rw [← hcenv]; exact I.ok.glob, by show cenv.builtins = _; rw [← hcenv]; exact I.ok.blt, by show s.heap.objs.size ≤ cenv.locals; rw [hL]; exact Nat.le_refl _,
      fun y z c e1 e2 => ?_, fun y hy => ?_, fun y c z e => ?_, I.ok.hd, I.ok.frames, .inl rfl, fun b hb => ⟨?_, fun y c e z => ?_⟩, I.bs, Nat.le_trans I.ok.bsz I.sz, fun b o e hb => ?_, fun b hb z => ?_, I.stack, I.stkFree⟩
    · have e1 : cenv.cells.lookup y = some c := e1
      have e2 : cenv.cells.lookup z = some c := e2
      rw [hcl] at e1 e2
      refine cells_inj (fun p hp => ?_) (fun y z c a b => I.ok.inj y z c (cm a).1 (cm b).1) (PySem.mem_of_lookup e1) (PySem.mem_of_lookup e2)
      rw [Heap.size_push]
      exact Nat.lt_succ_of_lt (cm (y := p.1) (c := p.2) hp).2
    · show ∃ c, cenv.cells.lookup y = some c
      have key : ∀ k, cenv.kindOf y = some k → (k = .cell ∨ k = .free) → ∃ c, cenv.cells.lookup y = some c := fun k hk hk' => by
        unfold Env.kindOf at hk
        rw [hsc] at hk
        obtain ⟨k', e, r⟩ := lookup_relS hk
        have : k' = .cell ∨ k' = .free := by
          rcases r with rfl | ⟨rfl, _⟩
          · exact hk'
          · exact .inr rfl
        rcases this with rfl | rfl
        · obtain ⟨c, hm⟩ := cells_has (n := (s.heap.push { cls := .type "dict", data := .dict #[] }).objs.size) (acc := cloFrom X.env.cells scope.names []) (PySem.mem_of_lookup e)
          obtain ⟨c', e'⟩ := mem_lookup hm
          exact ⟨c', by rw [hcl]; exact e'⟩
        · obtain ⟨c, h1, _⟩ := look e
          exact ⟨c, h1⟩
      rcases hy with hy | hy
      · exact key _ hy (.inl rfl)
      · exact key _ hy (.inr rfl)
    · have z : (scope.names.lookup y == some NameKind.cell) = true := z
      have z : scope.names.lookup y = some .cell := by simpa using z
      have e : cenv.cells.lookup y = some c := e
      rw [hcl] at e
      rcases cells_mem (PySem.mem_of_lookup e) with hm | ⟨_, h2, _⟩
      · rcases cloFrom_mem hm with hm | ⟨h1, _⟩
        · cases hm
        · have q := ok.uniq _ h1
          rw [z] at q; cases q
      · rw [Heap.size_push] at h2
        exact Nat.le_of_succ_le h2
    · show b ≠ cenv.locals
      rw [hL]; exact Nat.ne_of_lt (hfp b hb).2
    · have e : cenv.cells.lookup y = some c := e
      rcases mem e with ⟨h1, _⟩ | ⟨h1, _⟩
      · exact (hfp b hb).1.2.2.2.2.1 y c h1 z
      · have h2 : s.heap.objs.size + 1 ≤ b := by rw [← z]; exact h1
        exact absurd (Nat.lt_of_lt_of_le (hfp b hb).2 (Nat.le_of_succ_le h2)) (Nat.lt_irrefl _)
    · rcases (hfp b hb).1.2.2.2.1 with z | z
      · exact I.ok.noex b o e z
      · exact absurd (Nat.lt_of_lt_of_le (Heap.lt_size e) (Nat.le_trans I.ok.bsz z)) (Nat.lt_irrefl _)
    · rcases List.mem_cons.mp (I.stkSub b z) with z | z
      · exact (hfp b hb).1.2.1 z
      · exact (hfp b hb).1.2.2.1 z
  refine ⟨okB, rfl, I.bare, Un.kept kp, ⟨fun _ => none, ?_, fun i y av e1 e2 e3 => ?_⟩, fun y c e => ?_, ?_, fun y c e => ?_, fun p hp => ?_, I.hok.kept kp, by rw [wipe_length]; exact I.len⟩
  · show Heap.Ns _ cenv.locals _
    rw [hL]
    exact Heap.Ns.keeps (Heap.Ns.new ..) fun b o e => pushCells_keeps _ _ _ _ e
  · obtain ⟨e2, hne⟩ := wipe_some e2
    have hfr : scope.names.lookup y = some .free ∧ (cenv.kindOf y = some .cell ∨ cenv.kindOf y = some .free) := by
      have key : ∀ k, cenv.scope.names.lookup y = some k → k = .local ∨ k = .cell ∨ k = .free → scope.names.lookup y = some .free ∧ (cenv.kindOf y = some .cell ∨ cenv.kindOf y = some .free) := fun k hk hk' => by
        have hk0 := hk
        rw [hsc] at hk
        obtain ⟨k', e, r⟩ := lookup_relS hk
        have no : ¬ (k' = .local ∨ k' = .cell) := fun hh => by
          rcases ok.own _ (PySem.mem_of_lookup e) hh with e' | e'
          · obtain ⟨p, hp, hpy⟩ := List.mem_map.mp e'
            have e3 := ok.ix p hp
            have : p.1 = y := hpy
            rw [this] at e3
            exact hne (List.mem_map.mpr ⟨p, hp, nodup_ix hN e3 e1⟩)
          · exact e' (List.mem_of_getElem? e1)
        rcases r with rfl | ⟨rfl, rfl⟩
        · rcases hk' with rfl | rfl | rfl
          · exact absurd (.inl rfl) no
          · exact absurd (.inr rfl) no
          · exact ⟨e, .inr hk0⟩
        · exact ⟨e, .inl hk0⟩
      have e3 : Vis cenv.scope y := e3
      rcases e3 with e3 | e3 | e3
      · exact key _ e3 (.inl rfl)
      · exact key _ e3 (.inr (.inl rfl))
      · exact key _ e3 (.inr (.inr rfl))
    obtain ⟨m, hn, hl⟩ := I.loc
    have hvis : Vis X.env.scope y := (ok.free _ (PySem.mem_of_lookup hfr.1) rfl).elim (fun k => .inr (.inl k)) (fun k => .inr (.inr k))
    obtain ⟨w, r, q⟩ := hl i y av e1 e2 hvis
    refine ⟨w, r, .inr ⟨hfr.2, ?_⟩⟩
    obtain ⟨c, h1, h2⟩ := look hfr.1
    rcases q with ⟨k, _⟩ | ⟨_, c', e', z⟩
    · have k : X.env.scope.names.lookup y = some .local := k
      rcases ok.free _ (PySem.mem_of_lookup hfr.1) rfl with k' | k' <;> rw [show X.env.scope.names.lookup y = _ from k'] at k <;> cases k
    · rw [h2] at e'; cases e'
      exact ⟨c, h1, z.keeps kp⟩
  · have e : cenv.cells.lookup y = some c := e
    rcases mem e with ⟨h1, _⟩ | ⟨_, z⟩
    · obtain ⟨w, z⟩ := I.cell y c h1
      exact ⟨w, z.keeps kp⟩
    · exact ⟨_, z⟩
  · show H cenv.locals = none
    rw [hL]; exact I.hok.fresh (Nat.le_refl _)
  · have e : cenv.cells.lookup y = some c := e
    rcases mem e with ⟨h1, _⟩ | ⟨h1, _⟩
    · exact I.freeC y c h1
    · exact I.hok.fresh (Nat.le_of_succ_le h1)
  · exact absurd (show p ∈ ([] : List (Addr × Obj)) ++ [] from hp) (by simp)

/-- an item appended to a tracked list -/
theorem app_ok {E : Value → Shared → Prop} {D : Addr} {xs : List V} {y : V} {v : Value} {Q : Value → Shared → Prop} (I : Inv X pins σ H s) (hD : H D = some (.lst xs)) (hz : xs.length < sizeLine) (r : RelV y v)
    (h : ∀ s', Inv X pins σ (upd H D (.lst (xs ++ [y]))) s' → Q .none s') : wpAny (model X.prog X.w) X.A (call (.builtin "list.append") [.ref D, v]) Q E s := by
  obtain ⟨hz', its, n, ri, e⟩ := I.hok D _ hD
  have hl := ri.length
  refine append_at (hsz := by rw [List.size_toArray]; omega) e fun h' sb ho' => ?_
  refine h { s with heap := h' } (I.write (t' := s.toks) (by rw [hD]; trivial) (.inl rfl) (fun b u hb q => (sb.2 b hb).trans q) ⟨_, ho'⟩ ⟨by rw [List.length_append]; exact hz, its ++ [v], n + 1, ri.append (.cons r .nil), ?_⟩)
  rw [ho']
  simp

/-- a clause's tests -/
def PTs (X : Cx) (ifs : List Expr) (t : TT) : Prop :=
  ∀ (pins : List (Addr × Obj)) (s : Shared) (σ : St) (H : Hp) (Q : Bool → Hp → Prop), Inv X pins σ H s → t σ H Q →
    wpAny (model X.prog X.w) X.A (forIn ifs true fun c r => if r = true then do let ok ← isTrue c X.env (eval c X.env); pure (ForInStep.yield ok) else pure (ForInStep.yield r)) (TP X pins σ Q) X.xe s
def tYes : TT := fun _ H Q => Q true H
theorem pts_nil : PTs X [] tYes := fun _ _ _ H _ I h => wpAny_tests_nil ⟨H, I, h⟩
end

theorem thnF {α : Type} {t : Sem α} {Q Q' : α → Shared → Prop} {M : Model} {A : Around} {E : Value → Shared → Prop} {s : Shared} (h : wpAny M A t Q (fun _ _ => False) s) (hQ : ∀ a s, Q a s → Q' a s) : wpAny M A t Q' E s := wpAny_mono h hQ fun _ _ z => False.elim z

/-- the loop of a list comprehension's block, the target of any form (codeAny_compLoop_tests asks a target that no tuple goes to; statement and proof follow it, PyProof/CompMap.lean:41-61, with the step letOwnedTupleGo kept) -/
theorem compLoop_any {prog : Program} {w : World} {A : Around} {R : Result → Shared → Prop} {s : Shared} {elt target iter : Expr} {ifs : List Expr} {scope : Scope} {pos : Pos} {it acc : Value} {env : Env} (I : Nat → Shared → Prop)
    (turn : ∀ n s, I n s → wpAny (model prog w) A (pyNext it) (fun r s₁ => match r with
      | none => R (.ok .next) s₁
      | some v => wpAny (model prog w) A (letOwnedTupleGo target it v) (fun _ s₁' => wpAny (model prog w) A (assign target env v) (fun _ s₂ =>
          wpAny (model prog w) A (forIn ifs true fun c r => if r = true then do let ok ← isTrue c env (eval c env); pure (ForInStep.yield ok) else pure (ForInStep.yield r)) (fun ok s₃ =>
            if ok = true then wpAny (model prog w) A (eval elt env) (fun x s₄ =>
              wpAny (model prog w) A (call (.builtin "list.append") [acc, x]) (fun _ s₅ => ∃ m, m < n ∧ I m s₅) (notedBy (model prog w) A env fun e s' => R (.error e) s') s₄) (notedBy (model prog w) A env fun e s' => R (.error e) s') s₃
            else ∃ m, m < n ∧ I m s₃) (notedBy (model prog w) A env fun e s' => R (.error e) s') s₂) (notedBy (model prog w) A env fun e s' => R (.error e) s') s₁') (notedBy (model prog w) A env fun e s' => R (.error e) s') s₁) (notedBy (model prog w) A env fun e s' => R (.error e) s') s)
    (n : Nat) (h : I n s) :
    codeAny (model prog w) A (.compLoop (.ListComp elt [⟨target, iter, ifs, 0⟩] scope pos) 0 it acc env) R s := by
  refine codeAny_loop rfl I (fun n s hI => ?_) n h
  show wpAny _ A ((compTurn (.ListComp elt [⟨target, iter, ifs, 0⟩] scope pos) 0 it acc env).onRaise (fun x => do noteFrame x env; theTreesLotGoes x)) _ _ s
  refine wpAny_noted ?_
  rw [compTurn_list]
  refine wpAny_bind (wpAny_standAt (wpAny_bind (wpAny_mono (turn n s hI) (fun r s₁ h₁ => ?_) fun _ _ h' => h')))
  cases r with
  | none => exact wpAny_pure h₁
  | some v =>
    refine wpAny_bind (wpAny_mono h₁ (fun _ s₁' h₁' => ?_) fun _ _ h' => h')
    refine wpAny_bind (wpAny_mono h₁' (fun _ s₂ h₂ => wpAny_bind (wpAny_mono h₂ (fun ok s₃ h₃ => ?_) fun _ _ h' => h')) fun _ _ h' => h')
    cases ok with
    | false => exact wpAny_pure ⟨rfl, h₃⟩
    | true =>
      exact wpAny_bind (wpAny_bind (wpAny_mono h₃ (fun x s₄ h₄ => wpAny_bind (wpAny_mono h₄ (fun _ s₅ h₅ => wpAny_pure (wpAny_pure ⟨rfl, h₅⟩)) fun _ _ h' => h')) fun _ _ h' => h'))

section
variable {X : Cx}
/-- [elt for target in iter if ..]: D the new list; W by the turn and a measure, Nx what a turn is to reach -/
def tLc (wi : TI) (g : TG) (tt : TT) (te : TE) (vs : List Nat) : TE := fun σ H Q => wi σ H fun J H1 => ∀ D, H1 D = none → ∃ W : Nat → Nat → Hp → Prop, (∃ m, W 0 m (upd H1 D (.lst []))) ∧ ∀ i m H, W i m H →
  (J.stop i H ∧ Q (.ref D) H) ∨ (J.go i H ∧ ∃ Nx : Hp → Prop, (∀ H', Nx H' → ∃ m', m' < m ∧ W (i + 1) m' H') ∧ ∀ x H', J.yld i H x H' → g x (wipe σ vs) H' fun σ2 H2 => wipe σ2 vs = wipe σ vs ∧ tt σ2 H2 fun b H3 =>
    if b = true then te σ2 H3 fun y H4 => ∃ acc, H4 D = some (.lst acc) ∧ acc.length < sizeLine ∧ Nx (upd H4 D (.lst (acc ++ [y]))) else Nx H3)
theorem lc_core {pins : List (Addr × Obj)} {s : Shared} {σ : St} {H : Hp} {Q : VK} {elt tg iter : Expr} {ifs : List Expr} {scope : Scope} {own : List (Str × Nat)} {pos pos' : Pos} {wi : TI} {g : TG} {tt : TT} {te : TE} {use : Option (Value → Sem Unit)} {Qf : Value → Shared → Prop}
    (hc : X.calm = true) (hN : X.N.Nodup) (I : Inv X pins σ H s) (hi : PI X tg iter wi) (ok : BlkOk X.N X.env.scope scope own)
    (hg : ∀ (s : Shared) (H : Hp) (C : Addr) (cl : List (Str × Addr)) (fp : List Addr), PG (X.blk s H scope (compEnvC scope cl C X.env) fp) tg g) (ht : ∀ (s : Shared) (H : Hp) (C : Addr) (cl : List (Str × Addr)) (fp : List Addr), PTs (X.blk s H scope (compEnvC scope cl C X.env) fp) ifs tt)
    (he : ∀ (s : Shared) (H : Hp) (C : Addr) (cl : List (Str × Addr)) (fp : List Addr), PE (X.blk s H scope (compEnvC scope cl C X.env) fp) elt te) (hs : ∀ x, foldedSetIterable iter X.env x = pure x)
    (h : tLc wi g tt te (own.map (·.2)) σ H Q)
    (hRR : ∀ D C s' m H', Inv X pins σ H' s' → Q (.ref D) H' → s'.heap.Ns C m → FpOk X pins H' C → compPost (model X.prog X.w) X.A X.xe use Qf (.ref D) C (.ok .next) s') :
    wpAny (model X.prog X.w) X.A (comprehension (.ListComp elt [⟨tg, iter, ifs, 0⟩] scope pos) scope X.env pos' (newList []) false (eval iter X.env) use) Qf X.xe s := by
  have hfree : ∀ y ∈ scope.names, y.2 = .free → ∃ c, X.env.cells.lookup y.1 = some c := fun y hy e => by
    rcases ok.free y hy e with k | k
    · exact I.ok.has _ (.inl k)
    · exact I.ok.has _ (.inr k)
  refine wpAny_comprehension_free (use := use) rfl hs (closure_ok hfree) ok.kind (fun y hy e => by rw [ok.uniq y hy, e])
    (thn (hi pins s σ H _ I h) fun xv s1 hx => thn hx fun itv s2 h2 => ?_)
  obtain ⟨it, fp, tn, J, H2, e, I2, T, st2, f2, q⟩ := h2
  subst e
  refine wpAny_newObj_type (newEnv_comp ?_) (by show 0 ≤ sizeLine; decide)
  generalize hD : s2.heap.objs.size = D
  have hDn : H2 D = none := I2.hok.fresh (Nat.le_of_eq hD)
  obtain ⟨W, ⟨m0, w0⟩, turn⟩ := q D hDn
  -- the new list
  generalize hs3 : ({ s2 with heap := s2.heap.push { cls := .type "list", data := .seq ([] : List Value).toArray } } : Shared) = s3
  have I3 : Inv X pins σ (upd H2 D (.lst [])) s3 := by
    rw [← hs3]
    refine I2.laid (t' := s2.toks) (fun b o e => Heap.get?_push_of_some _ e) (Nat.le_of_eq hD) ⟨Nat.zero_le _, [], 0, .nil, ?_⟩
    rw [← hD]
    exact Heap.get?_push_size _ rfl
  have h3 : s3.heap = s2.heap.push { cls := .type "list", data := .seq ([] : List Value).toArray } := by rw [← hs3]
  have sz : ∀ b ∈ fp, b < s2.heap.objs.size := fun b hb => by
    obtain ⟨o, e, _⟩ := T.obj _ _ st2 b hb
    exact Heap.lt_size e
  have f3 : ∀ b ∈ fp, FpOk X pins (upd H2 D (.lst [])) b ∧ b < s3.heap.objs.size := fun b hb => by
    have hlt := sz b hb
    refine ⟨⟨?_, (f2 b hb).2⟩, by rw [h3, Heap.size_push]; exact Nat.lt_succ_of_lt hlt⟩
    rw [upd_ne (by rw [← hD]; exact Nat.ne_of_lt hlt)]
    exact (f2 b hb).1
  have st3 : tn 0 s3.heap := T.keep _ _ _ st2 fun b _ o e => by rw [h3]; exact Heap.get?_push_of_some _ e
  have I4 := block_start I3 ok hN f3
  have pg := hg s3 (upd H2 D (.lst [])) s3.heap.objs.size (cellsFrom (s3.heap.objs.size + 1) scope.names (cloFrom X.env.cells scope.names [])) fp
  have pt := ht s3 (upd H2 D (.lst [])) s3.heap.objs.size (cellsFrom (s3.heap.objs.size + 1) scope.names (cloFrom X.env.cells scope.names [])) fp
  have pe := he s3 (upd H2 D (.lst [])) s3.heap.objs.size (cellsFrom (s3.heap.objs.size + 1) scope.names (cloFrom X.env.cells scope.names [])) fp
  show codeAny _ _ (.compStart (.ListComp elt [⟨tg, iter, ifs, 0⟩] scope pos) 0 (.ref it) (.ref D) (compEnvC scope (cellsFrom (s3.heap.objs.size + 1) scope.names (cloFrom X.env.cells scope.names [])) s3.heap.objs.size X.env)) (compPost (model X.prog X.w) X.A X.xe use Qf (.ref D) s3.heap.objs.size) { s3 with heap := pushCells (s3.heap.push { cls := .type "dict", data := .dict #[] }) scope.names }
  have nfp : ∀ b ∈ fp, (upd H2 D (.lst [])) b = none := fun b hb => (f3 b hb).1.1
  generalize hce : compEnvC scope (cellsFrom (s3.heap.objs.size + 1) scope.names (cloFrom X.env.cells scope.names [])) s3.heap.objs.size X.env = ce at I4 pg pt pe ⊢
  have cL : ce.locals = s3.heap.objs.size := by subst hce; rfl
  generalize hH3 : upd H2 D (.lst []) = H3 at I3 I4 pg pt pe w0 nfp f3
  generalize hs4 : ({ s3 with heap := pushCells (s3.heap.push { cls := .type "dict", data := .dict #[] }) scope.names } : Shared) = s4 at I4 ⊢
  have st4 : tn 0 s4.heap := T.keep _ _ _ st3 fun b _ o e => by rw [← hs4]; exact pushCells_keeps _ _ _ _ (Heap.get?_push_of_some _ e)
  have stat : ∀ {σ' : St} {H' : Hp} {s' : Shared}, Inv (X.blk s3 H3 scope ce fp) [] σ' H' s' → (∀ b ∈ fp, H' b = none) → ∀ b ∈ fp, FpOk (X.blk s3 H3 scope ce fp) [] H' b := fun {σ' H' s'} I' hn b hb =>
    ⟨hn b hb, (I'.ok.exf b hb).1, I'.ok.exfs b hb, .inl hb, fun x c e => (I'.ok.exf b hb).2 x c e, fun p hp => absurd (show p ∈ ([] : List (Addr × Obj)) ++ [] from hp) (by simp)⟩
  have loop : codeAny (model X.prog X.w) X.A (.compLoop (.ListComp elt [⟨tg, iter, ifs, 0⟩] scope pos) 0 (.ref it) (.ref D) ce) (compPost (model X.prog X.w) X.A X.xe use Qf (.ref D) s3.heap.objs.size) s4 := by
    refine compLoop_any (fun n s' => ∃ i H', Inv (X.blk s3 H3 scope ce fp) [] (wipe σ (own.map (·.2))) H' s' ∧ tn i s'.heap ∧ (∀ b ∈ fp, H' b = none) ∧ W i n H') ?_ m0 ⟨0, H3, I4, st4, nfp, w0⟩
    rintro n s5 ⟨i, H5, I5, st5, n5, w5⟩
    rcases turn i n H5 w5 with ⟨stop, qq⟩ | ⟨go, Nx, hNx, step⟩
    · have td := T.done (X.blk s3 H3 scope ce fp) rfl rfl rfl hc i [] s5 _ H5 (fun _ _ => False) I5 (stat I5 n5) st5 stop
      refine thnF td fun r s6 ⟨hr, I6⟩ => ?_
      subst hr
      -- back in the def's context
      have I7 : Inv X pins σ H5 s6 := I3.call' (ch := fp) I6.os I6.base I6.hok I6.bare fun b hb => ⟨(f3 b hb).1.2.2.2.1, (f3 b hb).1.2.1, (f3 b hb).1.2.2.2.2.1, (f3 b hb).1.2.2.2.2.2⟩
      have nC : H5 s3.heap.objs.size = none := by
        have z : H5 ce.locals = none := I6.free
        rw [cL] at z
        exact z
      obtain ⟨m, hn, _⟩ := I6.loc
      have hn : s6.heap.Ns ce.locals m := hn
      rw [cL] at hn
      exact hRR D s3.heap.objs.size s6 m H5 I7 qq hn (I3.fpOk (Nat.le_refl _) nC)
    · have ti := T.item (X.blk s3 H3 scope ce fp) rfl rfl rfl hc i [] s5 _ H5 (fun _ _ => False) I5 (stat I5 n5) st5 go
      refine thnF ti fun r s6 ⟨u, hr, h6⟩ => ?_
      subst hr
      refine thnF h6 fun _ s7 ⟨x, H7, I7, r7, y7, st7, n7⟩ => ?_
      have I7' := I7.pinned (stat I7 n7) (T.obj _ _ st7)
      refine thnF (pg _ s7 _ H7 x u _ I7' r7 (step x H7 y7)) fun _ s8 ⟨σ8, H8, I8, hw8, q8⟩ => ?_
      refine thnF (pt _ s8 σ8 H8 _ I8 q8) fun b s9 ⟨H9, I9, q9⟩ => ?_
      -- the turn's end
      have fin : ∀ {s' : Shared} {H' : Hp}, Inv (X.blk s3 H3 scope ce fp) ([] ++ pinsAt fp s7.heap) σ8 H' s' → Nx H' → ∃ m, m < n ∧ ∃ i H', Inv (X.blk s3 H3 scope ce fp) [] (wipe σ (own.map (·.2))) H' s' ∧ tn i s'.heap ∧ (∀ b ∈ fp, H' b = none) ∧ W i m H' := fun {s' H'} I' nx => by
        obtain ⟨m', hm, w'⟩ := hNx H' nx
        have pin' : ∀ b ∈ fp, ∀ o, s7.heap.get? b = some o → s'.heap.get? b = some o ∧ H' b = none := fun b hb o e =>
          let z := I'.pin (b, o) (List.mem_append_right _ (List.mem_append_right _ (mem_pinsAt hb e)))
          ⟨z.1, z.2.1⟩
        have hl : (wipe σ (own.map (·.2))).length = σ8.length := by rw [← hw8, wipe_length]
        refine ⟨m', hm, i + 1, H', (I'.unpinned (pins := [])).weak hl (fun j v e => ?_), T.keep _ _ _ st7 fun b hb o e => (pin' b hb o e).1, fun b hb => ?_, w'⟩
        · rw [← hw8] at e
          exact (wipe_some e).1
        · obtain ⟨o, e, _⟩ := T.obj _ _ st7 b hb
          exact (pin' b hb o e).2
      cases b with
      | false =>
        simp only [Bool.false_eq_true, if_false] at q9 ⊢
        exact fin I9 q9
      | true =>
        simp only [if_true] at q9 ⊢
        refine thnF (pe _ s9 σ8 H9 _ I9 q9) fun z s10 ⟨yv, H10, I10, r10, acc, hD10, hz10, nx⟩ => ?_
        exact app_ok (X := X.blk s3 H3 scope ce fp) I10 hD10 hz10 r10 fun s11 I11 => fin I11 nx
  exact codeAny_compStart_list loop (T.self X.A 0 _ _ _ st4 loop)
/-- as a value -/
theorem pe_lc {elt tg iter : Expr} {ifs : List Expr} {scope : Scope} {own : List (Str × Nat)} {pos : Pos} {wi : TI} {g : TG} {tt : TT} {te : TE} (hc : X.calm = true) (hN : X.N.Nodup) (hi : PI X tg iter wi) (ok : BlkOk X.N X.env.scope scope own)
    (hg : ∀ (s : Shared) (H : Hp) (C : Addr) (cl : List (Str × Addr)) (fp : List Addr), PG (X.blk s H scope (compEnvC scope cl C X.env) fp) tg g) (ht : ∀ (s : Shared) (H : Hp) (C : Addr) (cl : List (Str × Addr)) (fp : List Addr), PTs (X.blk s H scope (compEnvC scope cl C X.env) fp) ifs tt)
    (he : ∀ (s : Shared) (H : Hp) (C : Addr) (cl : List (Str × Addr)) (fp : List Addr), PE (X.blk s H scope (compEnvC scope cl C X.env) fp) elt te) (hs : ∀ x, foldedSetIterable iter X.env x = pure x := by intro _; rfl) :
    PE X (.ListComp elt [⟨tg, iter, ifs, 0⟩] scope pos) (tLc wi g tt te (own.map (·.2))) := by
  intro pins s σ H Q I h
  rw [eval_ListComp]
  refine lc_core hc hN I hi ok hg ht he hs h fun D C s' m H' I' q hn f => ⟨m, hn, fun h'' sb => ?_⟩
  obtain ⟨f0, f1, f2, f3, f4, f5⟩ := f
  exact ⟨.ref D, H', I'.turned (t' := s'.toks) (fun b o hb e => (sb.2 b hb).trans e) f0 f1 f3 f4 f5, rfl, q⟩
end

/-- over a list that the block leaves as it is -/
theorem lc_list {K : PySem.W.Frag} {a : Addr} {xs : List V} {g : TG} {tt : TT} {te : TE} {vs : List Nat} {σ : St} {H1 : Hp} {D : Addr} {Qd : Hp → Prop} (Pv : Nat → Hp → Prop) (h0 : Pv 0 (upd H1 D (.lst []))) (hl : ∀ i H, i ≤ xs.length → Pv i H → SqL K H a xs)
    (hs : ∀ i x H, xs[i]? = some x → Pv i H → g x (wipe σ vs) H fun σ2 H2 => wipe σ2 vs = wipe σ vs ∧ tt σ2 H2 fun b H3 =>
      if b = true then te σ2 H3 fun y H4 => ∃ acc, H4 D = some (.lst acc) ∧ acc.length < sizeLine ∧ Pv (i + 1) (upd H4 D (.lst (acc ++ [y]))) else Pv (i + 1) H3) (hd : ∀ H, Pv xs.length H → Qd H) :
    ∃ W : Nat → Nat → Hp → Prop, (∃ m, W 0 m (upd H1 D (.lst []))) ∧ ∀ i m H, W i m H →
      ((Itl K a).stop i H ∧ Qd H) ∨ ((Itl K a).go i H ∧ ∃ Nx : Hp → Prop, (∀ H', Nx H' → ∃ m', m' < m ∧ W (i + 1) m' H') ∧ ∀ x H', (Itl K a).yld i H x H' → g x (wipe σ vs) H' fun σ2 H2 => wipe σ2 vs = wipe σ vs ∧ tt σ2 H2 fun b H3 =>
        if b = true then te σ2 H3 fun y H4 => ∃ acc, H4 D = some (.lst acc) ∧ acc.length < sizeLine ∧ Nx (upd H4 D (.lst (acc ++ [y]))) else Nx H3) := by
  refine ⟨fun i m H => m = xs.length - i ∧ i ≤ xs.length ∧ Pv i H, ⟨xs.length, by simp, Nat.zero_le _, h0⟩, ?_⟩
  rintro i m H ⟨rfl, hi, p⟩
  have q := hl i H hi p
  by_cases hlt : i < xs.length
  · refine .inr ⟨⟨xs, xs[i], q, by simp [hlt]⟩, Pv (i + 1), fun H' p' => ⟨xs.length - (i + 1), by omega, rfl, hlt, p'⟩, fun x H' y => ?_⟩
    obtain ⟨e, y⟩ := y
    subst e
    exact hs i x _ (y xs q) p
  · have e : i = xs.length := by omega
    subst e
    exact .inl ⟨⟨xs, q, Nat.le_refl _⟩, hd H p⟩
def blkC (N : List Str) (sc scope : Scope) (own : List (Str × Nat)) : Bool :=
  (match scope.kind with | .function => true | _ => false) && (scope.names.all fun y => decide (scope.names.lookup y.1 = some y.2)) && (own.all fun p => decide (N[p.2]? = some p.1)) &&
    (scope.names.all fun y => match y.2 with
      | .free => (match sc.names.lookup y.1 with | some .cell => true | some .free => true | _ => false)
      | .local => decide (y.1 ∈ own.map (·.1)) || decide (y.1 ∉ N)
      | .cell => decide (y.1 ∈ own.map (·.1)) || decide (y.1 ∉ N)
      | _ => true)
theorem blkOk_by {N : List Str} {sc scope : Scope} {own : List (Str × Nat)} (h : blkC N sc scope own = true) : BlkOk N sc scope own := by
  unfold blkC at h
  simp only [Bool.and_eq_true, List.all_eq_true, decide_eq_true_eq] at h
  obtain ⟨⟨⟨h1, h2⟩, h3⟩, h4⟩ := h
  refine ⟨?_, h2, h3, fun y hy e => ?_, fun y hy e => ?_⟩
  · split at h1
    · assumption
    · cases h1
  · have q := h4 y hy
    simp only [e] at q
    split at q <;> first | exact .inl (by assumption) | exact .inr (by assumption) | cases q
  · have q := h4 y hy
    rcases e with e | e <;> (simp only [e, Bool.or_eq_true, decide_eq_true_eq] at q; exact q)
end L2

namespace L2
open PySem PySem.Spec PyProof.Rows

section
variable {prog : Program} {w : World} {A : Around} {R : Result → Shared → Prop} {s : Shared} {elt t0 i0 t1 i1 : Expr} {ifs0 ifs1 : List Expr} {scope : Scope} {pos : Pos} {it acc : Value} {env : Env}
end

section
variable {X : Cx}
end
end L2

namespace L2
open PySem PySem.Spec PyProof.Rows

section
variable {κ : Type} [DecidableEq κ]
end

section
variable {P : Program} {w : World} {H : Hp} {h : Heap} {a : Addr}
end

section
variable {X : Cx} {pins : List (Addr × Obj)} {σ : St} {H : Hp} {s : Shared} {a : Addr} {y v : V} {u r : Value} {o : Option V} {A : Around} {E : Value → Shared → Prop}

end

section
variable {X : Cx} {pins : List (Addr × Obj)} {σ : St} {H : Hp} {s : Shared} {a : Addr} {kvs : List (Key × V)} {k : Key} {u : Value} {A : Around} {E : Value → Shared → Prop}
end

section
variable {X : Cx} {o i e value : Expr} {pos pos' tpos : Pos} {td ty tv : TE}
end

section
variable {X : Cx} {pos : Pos}
end

section
variable {X : Cx} {pins : List (Addr × Obj)} {σ : St} {H : Hp} {s : Shared} {a : Addr} {y d : V} {u r : Value} {o : Option V} {A : Around} {E : Value → Shared → Prop}
end

section
variable {X : Cx} {o e f : Expr} {apos cpos : Pos} {td ty tx : TE}
end

section
variable {X : Cx} {pins : List (Addr × Obj)} {σ : St} {H : Hp} {s : Shared} {a : Addr} {kvs : List (Key × V)} {A : Around} {E : Value → Shared → Prop}
end

section
variable {X : Cx} {pins : List (Addr × Obj)} {σ : St} {H : Hp} {s : Shared} {a : Addr} {y : V} {u : Value} {A : Around} {E : Value → Shared → Prop}
end
end L2

namespace L2
open PySem PySem.Spec PyProof.Rows

section
variable {prog : Program} {w : World} {A : Around} {E : Value → Shared → Prop}
end

section
variable {X : Cx}
end
end L2

namespace L2
open PySem PySem.Spec PyProof.Rows

section
variable {X : Cx} {pins : List (Addr × Obj)} {σ : St} {H : Hp} {s : Shared} {h' : Heap}
end
section
variable {X : Cx}
theorem pi_one {tg : Expr} {pins : List (Addr × Obj)} {σ : St} {H : Hp} {s : Shared} {R : It → Hp → Prop} {J : It} {tn : Nat → Heap → Prop} {tk : Nat} (I : Inv X pins σ H s) (o : Obj)
    (T : Turn X.prog X.w X.K tg J [s.heap.objs.size] s.heap.objs.size tn) (st : tn 0 (s.heap.push o)) (q : R J H) : PIE X pins σ tg R (.ref s.heap.objs.size) { s with heap := s.heap.push o, toks := tk } := by
  refine ⟨s.heap.objs.size, [s.heap.objs.size], tn, J, H, rfl, I.kept fun b ob e => Heap.get?_push_of_some _ e, T, st, fun b hb => ?_, q⟩
  have e : b = s.heap.objs.size := by simpa using hb
  subst e
  exact I.fpOk (Nat.le_refl _) (I.hok.fresh (Nat.le_refl _))
end

/-- lo, lo + c, .. (n of them) -/
def Itc (lo c : Int) (n : Nat) : It := ⟨fun i _ => i < n, fun i H x H' => H' = H ∧ x = .int (lo + (i : Nat) * c), fun i _ => n ≤ i⟩
theorem turn_rangeC {P : Program} {w : World} {K : PySem.W.Frag} {tg : Expr} (it : Addr) (lo c : Int) (n : Nat) : Turn P w K tg (Itc lo c n) [it] it (fun i h => IsRangeIter h it (lo + (i : Nat) * c) ((n : Int) - (i : Nat)) c) where
  mem := by simp
  obj := fun i h st b hb => by
    have e : b = it := by simpa using hb
    subst e
    exact ⟨_, st, fun v z => nomatch z⟩
  keep := fun i h h' st k => k it (by simp) _ st
  item := by
    intro X hP hw hK hc i pins s σ H E I hf st hg
    subst hP hw hK
    obtain ⟨f0, f1, f2, f3, f4, f5⟩ := hf it (by simp)
    have W := Walks.range (prog := X.prog) (w := X.w) (I.ok.hd hc) it lo c n
    refine W.item i s _ _ hg st fun v h' tk hv st' kk => ?_
    obtain ⟨t, rfl⟩ := hv
    have I1 : Inv X pins σ H { s with heap := h', toks := tk } := I.turned (fun b o hb e => kk b o (by simpa using hb) e) f0 f1 f3 f4 f5
    exact ⟨_, rfl, go_of (s := { s with heap := h', toks := tk }) (n := "range_iterator") st' rfl rfl (by decide) ⟨.int (lo + (i : Nat) * c), H, I1, ⟨t, rfl⟩, ⟨rfl, rfl⟩, st', fun b hb => (hf b hb).1⟩⟩
  done := by
    intro X hP hw hK hc i pins s σ H E I hf st hg
    subst hP hw hK
    obtain ⟨f0, f1, f2, f3, f4, f5⟩ := hf it (by simp)
    exact wpAny_pyNext_range_end (I.ok.hd hc) st (by have : n ≤ i := hg; omega) fun h' eb => ⟨rfl, I.turned (t' := s.toks) (fun b o hb e => eb b o hb e) f0 f1 f3 f4 f5⟩
  self := fun A i s Q E st h => wpAny_pyIter_rangeiter st h
/-- range(i, j, c): small bounds, n items -/
def RgC (i j c : Int) (n : Nat) : Prop := c ≠ 0 ∧ c.natAbs < 1073741824 ∧ Builtin.Range.small i j c = true ∧ Builtin.Range.rangeSize i j c = n
def iRng3 (ta : TA) : TI := fun σ H R => ta σ H fun vs H1 => ∃ (i j c : Int) (n : Nat), vs = [.int i, .int j, .int c] ∧ RgC i j c n ∧ R (Itc i c n) H1
section
variable {X : Cx} {tg : Expr}
theorem pi_range3 {a b c : Expr} {ta : TA} {p pos : Pos} (hg : Gl X "range") (hm : X.mg "range" = none) (ha : PA X [a, b, c] ta)
    (hs : starEach [a, b, c] X.env = (false, eval a X.env) :: starEach [b, c] X.env := by rfl) (hpl : (backTo pos (starEach [b, c] X.env)).any (·.1) = false := by rfl) :
    PI X tg (.Call (.Name "range" p) [a, b, c] [] pos) (iRng3 ta) := by
  intro pins s σ H R I h
  refine Call_ (ld_blt I hg hm boot_range (PyProof.Rows.callWith_type1 (thn (ha pos pins s σ H _ I h) fun us s1 ⟨vs, H1, I1, r1, q1⟩ => ?_) hs hpl))
  obtain ⟨i, j, k, n, e, ⟨c0, c1, c2, c3⟩, q⟩ := q1
  subst e
  cases r1 with
  | cons r rr =>
    cases rr with
    | cons r' rr =>
      cases rr with
      | cons r'' rr =>
        cases rr
        obtain ⟨t, rfl⟩ := r
        obtain ⟨t', rfl⟩ := r'
        obtain ⟨t'', rfl⟩ := r''
        refine call_range_3 c0 ?_ (.inl (PyProof.noPylong_small c1))
        refine wpAny_pyIter_range (IsRange.new ..) c2 ?_
        have I2 : Inv X pins σ H1 { s1 with heap := s1.heap.push { cls := .type "range", data := .fields #[.int i t, .int j t', .int k t''] } } := I1.kept (t' := s1.toks) fun b o e => Heap.get?_push_of_some _ e
        refine pi_one (tk := s1.toks) I2 _ (turn_rangeC _ i k n) ?_ q
        have e1 : i + ((0 : Nat) : Int) * k = i := by simp
        have e2 : (n : Int) - ((0 : Nat) : Int) = Builtin.Range.rangeSize i j k := by rw [c3]; simp
        show IsRangeIter _ _ (i + ((0 : Nat) : Int) * k) ((n : Int) - ((0 : Nat) : Int)) k
        rw [e1, e2]
        exact Heap.get?_push_size _ rfl
end
section
variable {X : Cx} {tg : Expr}
end

section
variable {prog : Program} {w : World} {A : Around} {E : Value → Shared → Prop} {s : Shared}
end

section
variable {X : Cx} {pins : List (Addr × Obj)} {σ : St} {H : Hp} {s : Shared} {d : Addr} {o : Obj}
end

section
variable {P : Program} {w : World} {K : PySem.W.Frag} {tg : Expr} {d : Addr} {o : Obj} {es : Array DictEntry} {ep : Nat}
end

section
variable {X : Cx} {tg e : Expr} {td : TE} {apos cpos : Pos}
end

end L2

section 
namespace Bits
open PySem PyProof.Rows

end Bits
end 

section 
namespace TL
open PySem PySem.Builtin PySem.Builtin.Str PySem.StrLaws

end TL
end 

namespace L2
open PySem PySem.Spec PyProof.Rows

section
variable {X : Cx} {pins : List (Addr × Obj)} {σ : St} {H : Hp} {s : Shared} {Q : VK}
end

section
variable {X : Cx}

end

section
variable {X : Cx} {o e : Expr} {to te : TE}
end
end L2

namespace L2
open PySem PySem.Spec PyProof.Rows

section
variable {X : Cx}
end

end L2

namespace Att
open PySem PySem.W PySem.Calls PyProof.Rows

section
variable {prog : Program} {w : World} {A : Around} {E : Value → Shared → Prop} {s : Shared} {K : Frag}

end
end Att

namespace L2
open PySem PySem.Spec PyProof.Rows

end L2

namespace L2
open PySem PySem.Spec PyProof.Rows

end L2

/- THE LAST THEOREM (shape; LID, My.* are yours):
   My.Adr: a structure of the addresses that your layer names (classes, functions); My.Txt K t: a structure (Prop) of the equations over K;
   My.txt_mk : {K} {implicit addresses ..} (e1 : nsIn K mainGlobals "law" = some (some (.ref f))) (e2 : K.lookup f = some ⟨oc, od, .func (fnOf "law" "law" params body scope dV kV doc pm an cdv ct), sl⟩) (e3 : codeIn K cdv "law" = true) .. : ∃ t, My.Txt K t

set_option maxRecDepth 100000 in
set_option maxHeartbeats 0 in
theorem PySem.Challenge.cw_LID_holds : PySem.Challenge.rw_LID.Holds := by
  w_on; o_law; k_head; (case hw => w_witness2)
  k_fill
  refine L2.walk_of (l := PySem.Challenge.rw_LID) (n := 63) (k := 40) (x := "script") (CX := fun w => ..) (sp := fun _ => My.sp_law) rfl (by decide) rfl ⟨rfl, by decide, by decide⟩ (fun w h Y => PySem.W.kIn_of Y) ?F ?S ?C
  case F =>
    intro w mg fa h KX G hmg
    have T : ∃ t, My.Txt (L2.KOf KX) t := by
      dsimp only [L2.KOf]                          -- K must stand as «<heap const> w.params» for k_is
      refine' My.txt_mk ?e1 ?e2 ?e3 ..
      (case e1 => PySem.W.k_is)                    -- in the order: a name -> its address -> its object -> its parts
      (case e2 => PySem.W.k_is)
      ..
    obtain ⟨t, T⟩ := T
    have e0 := hmg.symm.trans (PySem.W.mg_of KX G T.law)
    cases e0                                       -- fa is the law's own address
    exact ⟨_, fun s u => .of_eq rfl, fun base kb nb => My.law_fn T kb nb⟩     -- if «.of_eq rfl» comes too early: refine' ⟨_, ?b, fun base kb nb => My.law_fn T kb nb⟩; exact fun s u => .of_eq rfl
  case S => exact fun w H a ns hl hO hS => ..
  case C => exact ..
(the tactic k_is has no namespace: write k_is) -/

namespace L2
open PySem PySem.Spec PyProof.Rows

def defArgs (s : Stmt) : Arguments := match s with
  | .FunctionDef _ a _ _ _ _ _ _ _ _ => a
  | _ => { posonlyargs := [], args := [], vararg := none, kwonlyargs := [], kw_defaults := [], kwarg := none, defaults := [] }
def defBody (s : Stmt) : List Stmt := match s with
  | .FunctionDef _ _ b _ _ _ _ _ _ _ => b
  | _ => []
def defScope (s : Stmt) : Scope := match s with
  | .FunctionDef _ _ _ _ _ _ sc _ _ _ => sc
  | _ => { kind := .function, names := [], isGenerator := false, isCoroutine := false }

abbrev CX0 : CXT := fun _ _ _ _ _ _ => False
abbrev E0 : XK := fun _ _ _ => False
theorem pass0 {X : Cx} : Passes CX0 X E0 := fun _ _ _ _ _ _ _ h => h.elim

structure Fun (K : PySem.W.Frag) (x qual : Str) (st : Stmt) (f : Addr) (fd : FuncData) : Prop where
  ex : ∃ (oc : Value) (od : Option Addr) (kV doc pm : Value) (an : Option Addr) (cdv ct : Value) (osl : Array (Option Value)),
    fd = PySem.W.fnOf x qual (defArgs st) (defBody st) (defScope st) .none kV doc pm an cdv ct ∧ K.lookup f = some ⟨oc, od, .func fd, osl⟩ ∧ PySem.W.codeIn K cdv qual = true
  kp : PySem.W.keepIn K (.ref f) = true
section
variable {P : Program} {w : World} {K : PySem.W.Frag} {mg : Str → Option Value} {base : Heap}
/-- how its arguments bind (no defaults): h is «fun _ _ _ _ _ _ us hl => match us, hl with | [_, _], _ => rfl», one _ a parameter -/
theorem Fun.binds {x qual : Str} {st : Stmt} {f : Addr} {fd : FuncData} {ps : List Str} (F : Fun K x qual st f fd)
    (h : ∀ (kV doc pm : Value) (an : Option Addr) (cdv ct : Value) (us : List Value), us.length = ps.length → bindArgs (PySem.W.fnOf x qual (defArgs st) (defBody st) (defScope st) .none kV doc pm an cdv ct) ⟨us, []⟩ = pure (ps.zip us)) : Binds K fd ps [] := by
  obtain ⟨oc, od, kV, doc, pm, an, cdv, ct, osl, rfl, lk, hcd⟩ := F.ex
  exact .all (h kV doc pm an cdv ct)
theorem fun_mk {x qual : Str} {st : Stmt} {f : Addr} {oc : Value} {od an : Option Addr} {osl : Array (Option Value)} {kV doc pm cdv ct : Value} (l : K.lookup f = some ⟨oc, od, .func (PySem.W.fnOf x qual (defArgs st) (defBody st) (defScope st) .none kV doc pm an cdv ct), osl⟩)
    (c : PySem.W.codeIn K cdv qual = true) (k : PySem.W.keepIn K (.ref f) = true) : Fun K x qual st f (PySem.W.fnOf x qual (defArgs st) (defBody st) (defScope st) .none kV doc pm an cdv ct) := ⟨⟨oc, od, kV, doc, pm, an, cdv, ct, osl, rfl, l, c⟩, k⟩
end
theorem small1000 {n : Nat} (h : n ≤ 1000) : n < sizeLine := Nat.lt_of_le_of_lt h (by decide)

section
variable {X : Cx}
theorem pv (i : Nat) {x : Str} {pos : Pos} (hN : X.N[i]? = some x := by rfl) (hv : Vis X.env.scope x := by first | exact Or.inl rfl | exact Or.inr (Or.inl rfl) | exact Or.inr (Or.inr rfl)) (hd : (x == ("__debug__" : Str)) = false := by decide)
    (hcd : (x == ("__classdict__" : Str)) = false := by decide) : PE X (.Name x pos) (tVar i) := pe_var hN hv hd hcd
end

theorem iteF {A B : Prop} (h : B) : if false = true then A else B := by
  rw [if_neg Bool.false_ne_true]
  exact h
theorem iteT {A B : Prop} (h : A) : if true = true then A else B := by
  rw [if_pos rfl]
  exact h
/-- all that was tracked is as it was -/
def Same (H H' : Hp) : Prop := ∀ b o, H b = some o → H' b = some o
theorem Same.trans {H H1 H2 : Hp} (a : Same H H1) (b : Same H1 H2) : Same H H2 := fun c o h => b c o (a c o h)
theorem Same.free {H H' : Hp} (e : Same H H') {l : Addr} (h : H' l = Option.none) : H l = Option.none := by
  cases q : H l with
  | none => rfl
  | some o =>
    rw [e l o q] at h
    cases h
theorem Same.seq {K : PySem.W.Frag} {H H' : Hp} {a : Addr} {xs : List V} (e : Same H H') (h : SqL K H a xs) : SqL K H' a xs := by
  rcases h with (h | ⟨o, h⟩) | h
  · exact .inl (.inl (e _ _ h))
  · exact .inl (.inr ⟨o, e _ _ h⟩)
  · exact .inr h

section
variable {κ : Type} [DecidableEq κ]
end
end L2

namespace L2
open PySem PySem.Spec PyProof.Rows
open PySem.W (WData Codec OpenSpec Well WellAll ReadsW ReadsAllW)
mutual
/-- x stands for the datum d, lists and tuples all the way -/
inductive Dw (K : PySem.W.Frag) (H : Hp) : V → WData → Prop
  | non : Dw K H .non .none
  | bl (b : Bool) : Dw K H (.bl b) (.bool b)
  | int (i : Int) : Dw K H (.int i) (.int i)
  | str (x : Str) : Dw K H (.str x) (.str x)
  | byt (b : Array UInt8) : Dw K H (.byt b) (.bytes b.toList)
  | lst {a : Addr} {xs : List V} {ds : List WData} : SqL K H a xs → DwAll K H xs ds → Dw K H (.ref a) (.list ds)
  | tup {a : Addr} {xs : List V} {ds : List WData} : SqT K H a xs → DwAll K H xs ds → Dw K H (.ref a) (.tuple ds)
inductive DwAll (K : PySem.W.Frag) (H : Hp) : List V → List WData → Prop
  | nil : DwAll K H [] []
  | cons {v : V} {vs : List V} {d : WData} {ds : List WData} : Dw K H v d → DwAll K H vs ds → DwAll K H (v :: vs) (d :: ds)
end
theorem dw_ints {K : PySem.W.Frag} {H : Hp} : ∀ ns : List Int, DwAll K H (ns.map V.int) (ns.map WData.int)
  | [] => .nil
  | n :: r => .cons (.int n) (dw_ints r)
theorem ints_dw {K : PySem.W.Frag} {H : Hp} : ∀ (ns : List Int) (xs : List V), DwAll K H xs (ns.map WData.int) → xs = ns.map V.int
  | [], xs, h => by
    cases h
    rfl
  | n :: r, xs, h => by
    cases h with
    | cons h1 h2 =>
      cases h1
      rw [ints_dw r _ h2] <;> rfl
section
variable {P : Program} {w : World} {K : PySem.W.Frag} {H : Hp} {h : Heap} {R : PySem.W.WRecords} {cl : Str → Option Addr}
theorem sqL_at {a : Addr} {xs : List V} (hok : HOk P w H h) (KX : K.In h) (q : SqL K H a xs) : ∃ (its : List Value) (o : Obj) (n : Nat), Vals xs its ∧ h.get? a = some o ∧ o.cls = .type "list" ∧ o.data = .seq its.toArray n := by
  rcases q with q | ⟨o, its, n, e, hc, _, hd, _, hv⟩
  · obtain ⟨_, its, n, hv, e⟩ := (show ObjOk P w H h a (.lst xs) from q.ok hok)
    exact ⟨its, _, n, hv, e, rfl, rfl⟩
  · exact ⟨its.toList, o, n, hv, KX _ _ e, hc, by simp [hd]⟩
theorem sqT_at {a : Addr} {xs : List V} (hok : HOk P w H h) (KX : K.In h) (q : SqT K H a xs) : ∃ (its : List Value) (o : Obj) (n : Nat), Vals xs its ∧ h.get? a = some o ∧ o.cls = .type "tuple" ∧ o.data = .seq its.toArray n := by
  rcases q with q | ⟨o, its, n, e, hc, hd, _, hv⟩
  · obtain ⟨_, its, hv, o, e, hc, n, hd⟩ := (show ObjOk P w H h a (.tup xs) from q.ok hok)
    exact ⟨its, o, n, hv, e, hc, hd⟩
  · exact ⟨its.toList, o, n, hv, KX _ _ e, hc, by simp [hd]⟩
mutual
theorem Dw.reads (hok : HOk P w H h) (KX : K.In h) : ∀ (d : WData) (v : V) (u : Value), Dw K H v d → RelV v u → ∃ as, ReadsW R cl h u d as
  | .none, _, _, x, r => by
    cases x
    cases r
    exact ⟨_, ReadsW.none⟩
  | .bool b, _, _, x, r => by
    cases x
    cases r
    exact ⟨_, ReadsW.bool b⟩
  | .int i, _, _, x, r => by
    cases x
    obtain ⟨t, rfl⟩ := r
    exact ⟨_, ReadsW.int i t⟩
  | .str s, _, _, x, r => by
    cases x
    obtain ⟨t, rfl⟩ := r
    exact ⟨_, ReadsW.str s t⟩
  | .bytes b, _, _, x, r => by
    cases x
    obtain ⟨t, rfl⟩ := r
    exact ⟨_, ReadsW.bytes _ t⟩
  | .list ds, _, _, x, r => by
    cases x with
    | lst hs ha =>
      cases r
      obtain ⟨its, o, n, rv, ho, hc, hd⟩ := sqL_at hok KX hs
      obtain ⟨as, hr⟩ := Dw.readsAll hok KX ds _ its ha rv
      exact ⟨_, ReadsW.list ho hc hd hr⟩
  | .tuple ds, _, _, x, r => by
    cases x with
    | tup hs ha =>
      cases r
      obtain ⟨its, o, n, rv, ho, hc, hd⟩ := sqT_at hok KX hs
      obtain ⟨as, hr⟩ := Dw.readsAll hok KX ds _ its ha rv
      exact ⟨_, ReadsW.tuple ho hc hd hr⟩
  | .float _, _, _, x, _ => by cases x
  | .dict _, _, _, x, _ => by cases x
  | .bytearray _, _, _, x, _ => by cases x
  | .set _, _, _, x, _ => by cases x
  | .frozenset _, _, _, x, _ => by cases x
  | .obj _ _, _, _, x, _ => by cases x
theorem Dw.readsAll (hok : HOk P w H h) (KX : K.In h) : ∀ (ds : List WData) (vs : List V) (us : List Value), DwAll K H vs ds → Vals vs us → ∃ as, ReadsAllW R cl h us ds as
  | [], _, _, x, r => by
    cases x
    cases r
    exact ⟨_, ReadsAllW.nil⟩
  | d :: ds, _, _, x, r => by
    cases x with
    | cons h1 h2 =>
      cases r with
      | cons r1 r2 =>
        obtain ⟨as, q1⟩ := Dw.reads hok KX d _ _ h1 r1
        obtain ⟨bs, q2⟩ := Dw.readsAll hok KX ds _ _ h2 r2
        exact ⟨_, ReadsAllW.cons q1 q2⟩
end
end
mutual
/-- data that a codec tells -/
def plW : WData → Bool
  | .none => true
  | .bool _ => true
  | .int _ => true
  | .str _ => true
  | .bytes _ => true
  | .list xs => plWs xs
  | .tuple xs => plWs xs
  | _ => false
def plWs : List WData → Bool
  | [] => true
  | x :: r => plW x && plWs r
end
theorem plWs_map {α : Type} {f : α → WData} (h : ∀ a, plW (f a) = true) : ∀ l : List α, plWs (l.map f) = true
  | [] => rfl
  | x :: r => by
    show (plW (f x) && plWs (r.map f)) = true
    rw [h x, plWs_map h r] <;> rfl
theorem pl_enc : ∀ (c : Codec) (a : c.denote), plW (c.enc a) = true
  | .unit, _ => rfl
  | .bool, _ => rfl
  | .int _ _, _ => rfl
  | .nat _ _, _ => rfl
  | .u8, _ => rfl
  | .bytes _ _, _ => rfl
  | .text _ _ _ _, _ => rfl
  | .list _ _ c, a => plWs_map (fun x => pl_enc c x) a
  | .pair c d, a => by
    show (plW (c.enc a.1) && (plW (d.enc a.2) && true)) = true
    rw [pl_enc c a.1, pl_enc d a.2] <;> rfl
  | .triple c d e, a => by
    show (plW (c.enc a.1) && (plW (d.enc a.2.1) && (plW (e.enc a.2.2) && true))) = true
    rw [pl_enc c a.1, pl_enc d a.2.1, pl_enc e a.2.2] <;> rfl
  | .option c, none => rfl
  | .option c, some x => pl_enc c x
theorem pl_encAll : ∀ (cs : List Codec) (a : Codec.denoteAll cs), plWs (Codec.encAll cs a) = true
  | [], _ => rfl
  | c :: cs, a => by
    show (plW (c.enc a.1) && plWs (Codec.encAll cs a.2)) = true
    rw [pl_enc c a.1, pl_encAll cs a.2] <;> rfl
theorem weight_mem : ∀ {xs : List WData} {d : WData}, d ∈ xs → d.weight ≤ WData.weightAll xs
  | [], d, h => absurd h (by simp)
  | x :: r, d, h => by
    show d.weight ≤ x.weight + 1 + WData.weightAll r
    rcases List.mem_cons.mp h with e | m
    · rw [e]
      omega
    · have z := weight_mem m
      omega
def toV : Value → V
  | .none => .non
  | .bool b => .bl b
  | .int i _ => .int i
  | .str x _ => .str x
  | .bytes b _ => .byt b
  | .ref a => .ref a
  | _ => .non
/-- a value of the arguments, its objects among A -/
def OkU (A : List Addr) : Value → Prop
  | .none => True
  | .bool _ => True
  | .int _ _ => True
  | .str _ _ => True
  | .bytes _ _ => True
  | .ref a => a ∈ A
  | _ => False
theorem OkU.mono {A B : List Addr} (h : ∀ a ∈ A, a ∈ B) : ∀ {u : Value}, OkU A u → OkU B u := fun {u} x => by
  cases u with
  | ref a => exact h a x
  | none => trivial
  | bool b => trivial
  | int i t => trivial
  | str s t => trivial
  | bytes b t => trivial
  | _ => exact False.elim x
theorem relV_toV {A : List Addr} {u : Value} (x : OkU A u) : RelV (toV u) u := by
  cases u with
  | ref a => rfl
  | none => rfl
  | bool b => rfl
  | int i t => exact ⟨t, rfl⟩
  | str s t => exact ⟨t, rfl⟩
  | bytes b t => exact ⟨t, rfl⟩
  | _ => exact False.elim x
theorem vals_toV {A : List Addr} : ∀ {vs : List Value}, (∀ u ∈ vs, OkU A u) → Vals (vs.map toV) vs
  | [], _ => .nil
  | u :: r, h => .cons (relV_toV (h u (List.mem_cons_self ..))) (vals_toV fun x hx => h x (List.mem_cons_of_mem _ hx))
/-- an object of the arguments -/
def ArgOb (h : Heap) (A : List Addr) (a : Addr) : Prop := ∃ vs : List Value, vs.length ≤ sizeLine ∧ (∀ u ∈ vs, OkU A u) ∧
  (h.get? a = some { cls := .type "list", data := .seq vs.toArray } ∨ h.get? a = some { cls := .type "tuple", data := .seq vs.toArray })
theorem ArgOb.mono {h : Heap} {A B : List Addr} {a : Addr} (k : ∀ a ∈ A, a ∈ B) (x : ArgOb h A a) : ArgOb h B a := by
  obtain ⟨vs, h1, h2, h3⟩ := x
  exact ⟨vs, h1, fun u hu => (h2 u hu).mono k, h3⟩
theorem wellAll_len {P : Params} {h : Heap} : ∀ {vs : List Value} {ds : List WData}, WellAll P h vs ds → vs.length = ds.length
  | _, _, .nil => rfl
  | _, _, .cons _ b => by
    show _ + 1 = _ + 1
    rw [wellAll_len b]
theorem well_list {P : Params} {h : Heap} {v : Value} {ds : List WData} (x : Well P h v (.list ds)) : ∃ (a : Addr) (vs : List Value), v = .ref a ∧ h.get? a = some { cls := .type "list", data := .seq vs.toArray } ∧ WellAll P h vs ds := by
  cases x with
  | list ho hall => exact ⟨_, _, rfl, ho, hall⟩
theorem well_tuple {P : Params} {h : Heap} {v : Value} {ds : List WData} (x : Well P h v (.tuple ds)) : ∃ (a : Addr) (vs : List Value), v = .ref a ∧ h.get? a = some { cls := .type "tuple", data := .seq vs.toArray } ∧ WellAll P h vs ds := by
  cases x with
  | tuple ho hall => exact ⟨_, _, rfl, ho, hall⟩
theorem well_cons {P : Params} {h : Heap} {us : List Value} {d : WData} {ds : List WData} (x : WellAll P h us (d :: ds)) : ∃ (v : Value) (vs : List Value), us = v :: vs ∧ Well P h v d ∧ WellAll P h vs ds := by
  cases x with
  | cons a b => exact ⟨_, _, rfl, a, b⟩
theorem line_of {n : Nat} (h : n ≤ 1048576) : n ≤ sizeLine := Nat.le_trans h (by decide)
section
variable {P : Params} {h : Heap}
mutual
theorem area_one : ∀ (d : WData) (v : Value), Well P h v d → plW d = true → d.weight ≤ 1048576 → ∃ A : List Addr, OkU A v ∧ ∀ a ∈ A, ArgOb h A a
  | .none, _, x, _, _ => by
    cases x
    exact ⟨[], trivial, fun a m => absurd m (by simp)⟩
  | .bool b, _, x, _, _ => by
    cases x
    exact ⟨[], trivial, fun a m => absurd m (by simp)⟩
  | .int i, _, x, _, _ => by
    cases x
    exact ⟨[], trivial, fun a m => absurd m (by simp)⟩
  | .str s, _, x, _, _ => by
    cases x
    exact ⟨[], trivial, fun a m => absurd m (by simp)⟩
  | .bytes b, _, x, _, _ => by
    cases x
    exact ⟨[], trivial, fun a m => absurd m (by simp)⟩
  | .list ds, _, x, p, z => by
    obtain ⟨a, vs, rfl, ho, hall⟩ := well_list x
    have z2 : WData.weightAll ds ≤ 1048576 := z
    obtain ⟨A, h1, h2⟩ := area_all ds _ hall p fun d hd => Nat.le_trans (weight_mem hd) z2
    have k : ∀ b ∈ A, b ∈ a :: A := fun b hb => List.mem_cons_of_mem _ hb
    refine ⟨a :: A, List.mem_cons_self .., fun b hb => ?_⟩
    rcases List.mem_cons.mp hb with e | m
    · rw [e]
      exact ⟨vs, line_of (by rw [wellAll_len hall]; exact Nat.le_trans (PySem.W.length_le_weightAllW ds) z2), fun u hu => (h1 u hu).mono k, .inl ho⟩
    · exact (h2 b m).mono k
  | .tuple ds, _, x, p, z => by
    obtain ⟨a, vs, rfl, ho, hall⟩ := well_tuple x
    have z2 : WData.weightAll ds ≤ 1048576 := z
    obtain ⟨A, h1, h2⟩ := area_all ds _ hall p fun d hd => Nat.le_trans (weight_mem hd) z2
    have k : ∀ b ∈ A, b ∈ a :: A := fun b hb => List.mem_cons_of_mem _ hb
    refine ⟨a :: A, List.mem_cons_self .., fun b hb => ?_⟩
    rcases List.mem_cons.mp hb with e | m
    · rw [e]
      exact ⟨vs, line_of (by rw [wellAll_len hall]; exact Nat.le_trans (PySem.W.length_le_weightAllW ds) z2), fun u hu => (h1 u hu).mono k, .inr ho⟩
    · exact (h2 b m).mono k
  | .float _, _, _, p, _ => Bool.noConfusion (show false = true from p)
  | .dict _, _, _, p, _ => Bool.noConfusion (show false = true from p)
  | .bytearray _, _, _, p, _ => Bool.noConfusion (show false = true from p)
  | .set _, _, _, p, _ => Bool.noConfusion (show false = true from p)
  | .frozenset _, _, _, p, _ => Bool.noConfusion (show false = true from p)
  | .obj _ _, _, _, p, _ => Bool.noConfusion (show false = true from p)
theorem area_all : ∀ (ds : List WData) (vs : List Value), WellAll P h vs ds → plWs ds = true → (∀ d ∈ ds, d.weight ≤ 1048576) → ∃ A : List Addr, (∀ u ∈ vs, OkU A u) ∧ ∀ a ∈ A, ArgOb h A a
  | [], _, x, _, _ => by
    cases x
    exact ⟨[], fun u m => absurd m (by simp), fun a m => absurd m (by simp)⟩
  | d :: ds, _, x, p, z => by
    obtain ⟨v, vs, rfl, x1, x2⟩ := well_cons x
    have q : plW d = true ∧ plWs ds = true := Bool.and_eq_true_iff.mp p
    obtain ⟨A, a1, a2⟩ := area_one d v x1 q.1 (z d (List.mem_cons_self ..))
    obtain ⟨B, b1, b2⟩ := area_all ds vs x2 q.2 fun e he => z e (List.mem_cons_of_mem _ he)
    have kA : ∀ b ∈ A, b ∈ A ++ B := fun b hb => List.mem_append.mpr (.inl hb)
    have kB : ∀ b ∈ B, b ∈ A ++ B := fun b hb => List.mem_append.mpr (.inr hb)
    refine ⟨A ++ B, fun u hu => ?_, fun b hb => ?_⟩
    · rcases List.mem_cons.mp hu with e | m
      · rw [e]
        exact a1.mono kA
      · exact (b1 u m).mono kB
    · rcases List.mem_append.mp hb with m | m
      · exact (a2 b m).mono kA
      · exact (b2 b m).mono kB
end
end
/-- what is tracked of an argument's object -/
def hoOf (o : Obj) : Option HO := match o.data with
  | .seq vs _ => if (o.cls == Value.type "list") = true then some (.frz o (.lst (vs.toList.map toV))) else some (.frz o (.tup (vs.toList.map toV)))
  | _ => none
def argH (K : PySem.W.Frag) (h : Heap) (A : List Addr) : Hp := fun b => if b ∈ A then (if (K.lookup b).isNone = true then (h.get? b).bind hoOf else none) else none
/-- nothing is tracked but what is known to the object -/
def OnlyF (H : Hp) : Prop := ∀ b, H b = none ∨ ∃ o u, H b = some (.frz o u)
theorem hoOf_lst (vs : List Value) : hoOf { cls := .type "list", data := .seq vs.toArray } = some (.frz { cls := .type "list", data := .seq vs.toArray } (.lst (vs.map toV))) := by
  show (if (Value.type "list" == Value.type "list") = true then some (HO.frz { cls := .type "list", data := .seq vs.toArray } (.lst (vs.toArray.toList.map toV))) else some (HO.frz { cls := .type "list", data := .seq vs.toArray } (.tup (vs.toArray.toList.map toV)))) = _
  rw [if_pos (beq_self_eq_true _)]
theorem hoOf_tup (vs : List Value) : hoOf { cls := .type "tuple", data := .seq vs.toArray } = some (.frz { cls := .type "tuple", data := .seq vs.toArray } (.tup (vs.map toV))) := by
  show (if (Value.type "tuple" == Value.type "list") = true then some (HO.frz { cls := .type "tuple", data := .seq vs.toArray } (.lst (vs.toArray.toList.map toV))) else some (HO.frz { cls := .type "tuple", data := .seq vs.toArray } (.tup (vs.toArray.toList.map toV)))) = _
  rw [if_neg (by decide)]
section
variable {P : Program} {w : World} {K : PySem.W.Frag} {h : Heap} {A : List Addr}
theorem argH_at {b : Addr} {o : Obj} (hb : b ∈ A) (hk : K.lookup b = none) (e : h.get? b = some o) : argH K h A b = hoOf o := by
  unfold argH
  rw [if_pos hb, hk, if_pos (show (none : Option Obj).isNone = true from rfl), e] <;> rfl
theorem of_argH {b : Addr} {u : HO} (q : argH K h A b = some u) : b ∈ A ∧ K.lookup b = none := by
  unfold argH at q
  by_cases hb : b ∈ A
  · rw [if_pos hb] at q
    cases hk : K.lookup b with
    | none => exact ⟨hb, rfl⟩
    | some o =>
      rw [hk, if_neg (by simp)] at q
      cases q
  · rw [if_neg hb] at q
    cases q
/-- what stands tracked -/
theorem argH_is (ar : ∀ a ∈ A, ArgOb h A a) {b : Addr} {u : HO} (q : argH K h A b = some u) : K.lookup b = none ∧ ∃ vs : List Value, vs.length ≤ sizeLine ∧ (∀ u ∈ vs, OkU A u) ∧
    ((h.get? b = some { cls := .type "list", data := .seq vs.toArray } ∧ u = .frz { cls := .type "list", data := .seq vs.toArray } (.lst (vs.map toV))) ∨
     (h.get? b = some { cls := .type "tuple", data := .seq vs.toArray } ∧ u = .frz { cls := .type "tuple", data := .seq vs.toArray } (.tup (vs.map toV)))) := by
  obtain ⟨hb, hk⟩ := of_argH q
  obtain ⟨vs, h1, h2, h3⟩ := ar b hb
  refine ⟨hk, vs, h1, h2, ?_⟩
  rcases h3 with e | e
  · rw [argH_at hb hk e, hoOf_lst] at q
    exact .inl ⟨e, (Option.some.inj q).symm⟩
  · rw [argH_at hb hk e, hoOf_tup] at q
    exact .inr ⟨e, (Option.some.inj q).symm⟩
theorem argH_only (ar : ∀ a ∈ A, ArgOb h A a) : OnlyF (argH K h A) := fun b => by
  cases q : argH K h A b with
  | none => exact .inl rfl
  | some u =>
    obtain ⟨_, vs, _, _, ⟨_, e⟩ | ⟨_, e⟩⟩ := argH_is ar q
    · exact .inr ⟨_, _, by rw [e]⟩
    · exact .inr ⟨_, _, by rw [e]⟩
theorem argH_ok (ar : ∀ a ∈ A, ArgOb h A a) : HOk P w (argH K h A) h := fun b u q => by
  obtain ⟨_, vs, h1, h2, ⟨e, rfl⟩ | ⟨e, rfl⟩⟩ := argH_is ar q
  · exact ⟨e, by rw [List.length_map]; exact h1, vs, _, vals_toV h2, e⟩
  · exact ⟨e, by rw [List.length_map]; exact h1, vs, vals_toV h2, _, e, rfl, _, rfl⟩
theorem seq_inj {c c' : Value} {vs us : List Value} (e : (some { cls := c, data := .seq vs.toArray } : Option Obj) = some { cls := c', data := .seq us.toArray }) : c = c' ∧ vs = us := by
  have e1 := Option.some.inj e
  have e2 : c = c' := congrArg Obj.cls e1
  have e3 : Data.seq vs.toArray = Data.seq us.toArray := congrArg Obj.data e1
  injection e3 with e4
  refine ⟨e2, ?_⟩
  have e5 := congrArg Array.toList e4
  simpa using e5
/-- a list argument -/
theorem argL (KX : K.In h) (ar : ∀ a ∈ A, ArgOb h A a) {a : Addr} {vs : List Value} (ha : a ∈ A) (e : h.get? a = some { cls := .type "list", data := .seq vs.toArray }) : (∀ u ∈ vs, OkU A u) ∧ SqL K (argH K h A) a (vs.map toV) := by
  obtain ⟨us, h1, h2, h3⟩ := ar a ha
  have hu : us = vs := by
    rcases h3 with q | q
    · rw [e] at q
      exact (seq_inj q).2.symm
    · rw [e] at q
      exact absurd (Value.type.inj (seq_inj q).1) (by decide)
  subst hu
  refine ⟨h2, ?_⟩
  cases hk : K.lookup a with
  | none => exact .inl (.inr ⟨_, by rw [argH_at ha hk e, hoOf_lst]⟩)
  | some o =>
    have e2 := KX a o hk
    rw [e] at e2
    obtain rfl := Option.some.inj e2
    exact .inr ⟨_, us.toArray, _, hk, rfl, rfl, rfl, by rw [List.size_toArray]; exact h1, by simpa using vals_toV h2⟩
theorem argT (KX : K.In h) (ar : ∀ a ∈ A, ArgOb h A a) {a : Addr} {vs : List Value} (ha : a ∈ A) (e : h.get? a = some { cls := .type "tuple", data := .seq vs.toArray }) : (∀ u ∈ vs, OkU A u) ∧ SqT K (argH K h A) a (vs.map toV) := by
  obtain ⟨us, h1, h2, h3⟩ := ar a ha
  have hu : us = vs := by
    rcases h3 with q | q
    · rw [e] at q
      exact absurd (Value.type.inj (seq_inj q).1) (by decide)
    · rw [e] at q
      exact (seq_inj q).2.symm
  subst hu
  refine ⟨h2, ?_⟩
  cases hk : K.lookup a with
  | none => exact .inl (.inr ⟨_, by rw [argH_at ha hk e, hoOf_tup]⟩)
  | some o =>
    have e2 := KX a o hk
    rw [e] at e2
    obtain rfl := Option.some.inj e2
    exact .inr ⟨_, us.toArray, _, hk, rfl, rfl, by rw [List.size_toArray]; exact h1, by simpa using vals_toV h2⟩
mutual
theorem dw_one {Pm : Params} (KX : K.In h) (ar : ∀ a ∈ A, ArgOb h A a) : ∀ (d : WData) (v : Value), Well Pm h v d → plW d = true → OkU A v → Dw K (argH K h A) (toV v) d
  | .none, _, x, _, _ => by
    cases x
    exact .non
  | .bool b, _, x, _, _ => by
    cases x
    exact .bl b
  | .int i, _, x, _, _ => by
    cases x
    exact .int i
  | .str s, _, x, _, _ => by
    cases x
    exact .str s
  | .bytes b, _, x, _, _ => by
    cases x
    have z := Dw.byt (K := K) (H := argH K h A) b.toArray
    exact z
  | .list ds, _, x, p, hu => by
    obtain ⟨a, vs, rfl, ho, hall⟩ := well_list x
    obtain ⟨h2, hs⟩ := argL KX ar hu ho
    exact .lst hs (dw_all KX ar ds _ hall p h2)
  | .tuple ds, _, x, p, hu => by
    obtain ⟨a, vs, rfl, ho, hall⟩ := well_tuple x
    obtain ⟨h2, hs⟩ := argT KX ar hu ho
    exact .tup hs (dw_all KX ar ds _ hall p h2)
  | .float _, _, _, p, _ => Bool.noConfusion (show false = true from p)
  | .dict _, _, _, p, _ => Bool.noConfusion (show false = true from p)
  | .bytearray _, _, _, p, _ => Bool.noConfusion (show false = true from p)
  | .set _, _, _, p, _ => Bool.noConfusion (show false = true from p)
  | .frozenset _, _, _, p, _ => Bool.noConfusion (show false = true from p)
  | .obj _ _, _, _, p, _ => Bool.noConfusion (show false = true from p)
theorem dw_all {Pm : Params} (KX : K.In h) (ar : ∀ a ∈ A, ArgOb h A a) : ∀ (ds : List WData) (vs : List Value), WellAll Pm h vs ds → plWs ds = true → (∀ u ∈ vs, OkU A u) → DwAll K (argH K h A) (vs.map toV) ds
  | [], _, x, _, _ => by
    cases x
    exact .nil
  | d :: ds, _, x, p, hu => by
    obtain ⟨v, vs, rfl, x1, x2⟩ := well_cons x
    have q : plW d = true ∧ plWs ds = true := Bool.and_eq_true_iff.mp p
    exact .cons (dw_one KX ar d v x1 q.1 (hu _ (List.mem_cons_self ..))) (dw_all KX ar ds vs x2 q.2 fun u m => hu u (List.mem_cons_of_mem _ m))
end
end
theorem layable_weight {ds : List WData} (h : WData.layableAll ds = true) : ∀ d ∈ ds, d.weight ≤ 1048576 := fun d hd =>
  (PySem.W.layableW_iff.mp (List.all_eq_true.mp h d hd)).2.2
theorem encAll_len : ∀ (cs : List Codec) (a : Codec.denoteAll cs), (Codec.encAll cs a).length = cs.length
  | [], _ => rfl
  | c :: cs, a => by
    show (Codec.encAll cs a.2).length + 1 = cs.length + 1
    rw [encAll_len cs a.2]
end L2

namespace CxM
open Sc06

def bitlen (n : Nat) : Nat := if n = 0 then 0 else Nat.log2 n + 1
def units (b : Nat) : Nat := if b / 2 ^ 52 % 2 ^ 11 = 0 then b % 2 ^ 52 else (b % 2 ^ 52 + 2 ^ 52) * 2 ^ (b / 2 ^ 52 % 2 ^ 11 - 1)
def neg? (b : Nat) : Bool := decide (2 ^ 63 ≤ b)
def fin? (b : Nat) : Bool := decide (b / 2 ^ 52 % 2 ^ 11 ≠ 2047)

/-- a part's bits and the number that they say -/
structure Rel (b : Nat) (x : Num) : Prop where
  lt : b < 2 ^ 64
  of : ofBits DBL b = some x

theorem ofBits_eq (b : Nat) : ofBits DBL b =
    if b / 2 ^ 52 % 2 ^ 11 = 2047 then none
    else if b / 2 ^ 52 % 2 ^ 11 = 0 then some ⟨neg? b, b % 2 ^ 52, -1074⟩
    else some ⟨neg? b, b % 2 ^ 52 + 2 ^ 52, -1074 + ((b / 2 ^ 52 % 2 ^ 11 : Nat) : Int) - 1⟩ := rfl

theorem rel_fin {b : Nat} (h : b < 2 ^ 64) (hf : fin? b = true) : ∃ x, Rel b x := by
  unfold fin? at hf
  have hf := of_decide_eq_true hf
  have := ofBits_eq b
  rw [if_neg hf] at this
  split at this
  · exact ⟨_, h, this⟩
  · exact ⟨_, h, this⟩
theorem ofBits_none {b : Nat} (hf : fin? b = false) : ofBits DBL b = none := by
  unfold fin? at hf
  have hf := of_decide_eq_false hf
  rw [ofBits_eq, if_pos (by omega)]
theorem Rel.read {b : Nat} {x : Num} (r : Rel b x) : x.minus = neg? b ∧ ∃ j : Nat, x.e = (j : Int) - 1074 ∧ j ≤ 2045 ∧ units b = x.m * 2 ^ j ∧ x.m < 2 ^ 53 := by
  have h := r.of
  rw [ofBits_eq] at h
  unfold units
  split at h
  · cases h
  · rename_i hne
    split at h
    · rename_i h0
      cases h
      refine ⟨rfl, 0, rfl, by omega, ?_, ?_⟩
      · rw [if_pos h0]; simp
      · show b % 2 ^ 52 < 2 ^ 53
        omega
    · rename_i h0
      cases h
      refine ⟨rfl, b / 2 ^ 52 % 2 ^ 11 - 1, ?_, by omega, ?_, ?_⟩
      · show -1074 + ((b / 2 ^ 52 % 2 ^ 11 : Nat) : Int) - 1 = _
        omega
      · rw [if_neg h0]
      · show b % 2 ^ 52 + 2 ^ 52 < 2 ^ 53
        omega

theorem Rel.toBits {b : Nat} {x : Num} (r : Rel b x) : Sc06.toBits DBL x = b := by
  have h := r.of
  have hl := r.lt
  rw [ofBits_eq] at h
  have e1 : DBL.bits = 53 := rfl
  have e2 : DBL.exps = 11 := rfl
  have e3 : DBL.least = -1074 := rfl
  have hn : (if neg? b = true then (2 : Nat) ^ 63 else 0) = b / 2 ^ 63 * 2 ^ 63 := by
    unfold neg?
    by_cases h63 : 2 ^ 63 ≤ b
    · rw [decide_eq_true h63, if_pos rfl]; omega
    · rw [decide_eq_false h63, if_neg (by decide)]; omega
  split at h
  · cases h
  · split at h
    · rename_i h0
      cases h
      simp only [Sc06.toBits, e1, e2, e3, show (53 - 1 : Nat) = 52 from rfl, show (52 + 11 : Nat) = 63 from rfl]
      rw [hn, if_pos (by omega)]
      omega
    · rename_i h0
      cases h
      simp only [Sc06.toBits, e1, e2, e3, show (53 - 1 : Nat) = 52 from rfl, show (52 + 11 : Nat) = 63 from rfl]
      rw [hn, if_neg (by omega)]
      omega

def signed (x : Nat) : Int := if neg? x then -(units x : Int) else (units x : Int)
theorem Rel.signed {x : Nat} {a : Num} (hx : Rel x a) {k : Nat} {j : Nat} (hj : a.e = (j : Int) - 1074) (hk : k ≤ j) (hu : units x = a.m * 2 ^ j) :
    CxM.signed x = a.times ((k : Int) - 1074) * (2 ^ k : Nat) := by
  obtain ⟨s1, _⟩ := hx.read
  unfold CxM.signed Num.times
  rw [← s1]
  have h1 : (a.e - ((k : Int) - 1074)).toNat = j - k := by omega
  have h2 : units x = a.m * 2 ^ (j - k) * 2 ^ k := by
    rw [hu, Nat.mul_assoc, ← Nat.pow_add, show j - k + k = j by omega]
  simp only [h1]
  rw [h2]
  cases a.minus <;> simp [Int.natCast_mul, Int.neg_mul]

end CxM

namespace CxM
open Sc06

def OR {α β : Type} (R : α → β → Prop) : Option α → Option β → Prop
  | none, none => True
  | some a, some b => R a b
  | _, _ => False
/-- a complex number and its two parts' bits -/
abbrev RelC (c : Cx) (p : Nat × Nat) : Prop := Rel p.1 c.1 ∧ Rel p.2 c.2

def RelL : List Nat → List Cx → Prop
  | [], [] => True
  | x :: y :: r, c :: cs => RelC c (x, y) ∧ RelL r cs
  | _, _ => False
def allFin (l : List Nat) : Bool := l.all fin?

theorem numbers_rel : ∀ (n : Nat) (l : List Nat), l.length = 2 * n → (∀ x ∈ l, x < 2 ^ 64) →
    (allFin l = true → ∃ cs, numbers DBL l = some cs ∧ RelL l cs ∧ cs.length = n) ∧ (allFin l = false → numbers DBL l = none)
  | 0, l, hl, hb => by
    have : l = [] := List.eq_nil_of_length_eq_zero (by omega)
    subst this
    exact ⟨fun _ => ⟨[], rfl, trivial, rfl⟩, fun h => by cases h⟩
  | n + 1, l, hl, hb => by
    match l, hl with
    | [], h => simp at h
    | [x], h => simp at h; omega
    | x :: y :: r, h =>
      have hr : r.length = 2 * n := by simp at h; omega
      obtain ⟨ih1, ih2⟩ := numbers_rel n r hr (fun z hz => hb z (by simp [hz]))
      have bx := hb x (by simp)
      have by' := hb y (by simp)
      have e : allFin (x :: y :: r) = (fin? x && (fin? y && allFin r)) := by simp [allFin]
      rw [e]
      cases hx : fin? x with
      | false =>
        refine ⟨fun h => (by cases h), fun _ => ?_⟩
        simp [numbers, ofBits_none hx]
      | true =>
        obtain ⟨a, ra⟩ := rel_fin bx hx
        cases hy : fin? y with
        | false =>
          refine ⟨fun h => (by simp at h), fun _ => ?_⟩
          simp [numbers, ofBits_none hy]
        | true =>
          obtain ⟨b, rb⟩ := rel_fin by' hy
          refine ⟨fun h => ?_, fun h => ?_⟩
          · obtain ⟨cs, e1, e2, e3⟩ := ih1 (by simpa using h)
            exact ⟨(a, b) :: cs, by simp [numbers, ra.of, rb.of, e1], ⟨⟨ra, rb⟩, e2⟩, by simp [e3]⟩
          · have := ih2 (by simpa using h)
            simp [numbers, ra.of, rb.of, this]

theorem nats_lt {l : List Int} (h : ∀ z ∈ l, 0 ≤ z ∧ z < 2 ^ 64) : ∀ x ∈ Sc06Neutral.nats l, x < 2 ^ 64 := by
  intro x hx
  unfold Sc06Neutral.nats at hx
  obtain ⟨z, hz, rfl⟩ := List.mem_map.mp hx
  have := h z hz
  omega
theorem nats_len (l : List Int) : (Sc06Neutral.nats l).length = l.length := by simp [Sc06Neutral.nats]

end CxM

namespace CxM

theorem and_mid (n k j : Nat) : n &&& ((2 ^ k - 1) * 2 ^ j) = n / 2 ^ j % 2 ^ k * 2 ^ j := by
  apply Nat.eq_of_testBit_eq
  intro i
  rw [Nat.testBit_and, Nat.testBit_mul_two_pow, Nat.testBit_mul_two_pow, Nat.testBit_two_pow_sub_one, Nat.testBit_mod_two_pow, Nat.testBit_div_two_pow]
  by_cases h : j ≤ i
  · rw [Nat.sub_add_cancel h]
    cases n.testBit i <;> simp
  · rw [decide_eq_false h]
    simp
theorem and_inf (n : Nat) : n &&& 9218868437227405312 = n / 2 ^ 52 % 2 ^ 11 * 2 ^ 52 := and_mid n 11 52
theorem and_sign (n : Nat) : n &&& 9223372036854775808 = n / 2 ^ 63 % 2 * 2 ^ 63 := and_mid n 1 63

/-- the bits of a number, as Python tells them -/
theorem bitlen_le {n k : Nat} (h : n < 2 ^ k) : bitlen n ≤ k := by
  unfold bitlen
  split
  · omega
  · rename_i h0
    have := (Nat.log2_lt h0).2 h
    omega
end CxM

namespace CxM
open Sc06

theorem row_asked {a : List Int} {bits : Nat} (h : Sc06Neutral.row a bits = true) : ∃ n, n ≤ 64 ∧ a.length = 2 * n ∧ ∀ z ∈ a, 0 ≤ z ∧ z < 2 ^ bits := by
  unfold Sc06Neutral.row Sc06Neutral.parts at h
  simp only [Bool.and_eq_true, beq_iff_eq, List.all_eq_true, decide_eq_true_eq] at h
  exact ⟨a.length / 2, by omega, h.2.1, h.2.2⟩
theorem asked1_of {c : Sc06Neutral.Call} (h : Sc06Neutral.asked [c] = true) : Sc06Neutral.asked1 c = true := by
  unfold Sc06Neutral.asked at h
  simp only [List.all_cons, List.all_nil, Bool.and_true, Bool.and_eq_true] at h
  exact h.1
end CxM

set_option linter.all false
namespace CxM
open Sc06

abbrev Pr2 := Nat × Nat
def pairsOf : List Nat → List Pr2
  | x :: y :: r => (x, y) :: pairsOf r
  | _ => []
def flatP : List Pr2 → List Nat
  | [] => []
  | p :: r => p.1 :: p.2 :: flatP r
def RelP : List Pr2 → List Cx → Prop
  | [], [] => True
  | p :: ps, c :: cs => RelC c p ∧ RelP ps cs
  | _, _ => False
theorem RelL.pairs : ∀ {l : List Nat} {cs : List Cx}, RelL l cs → RelP (pairsOf l) cs
  | [], [], _ => trivial
  | x :: y :: r, c :: cs, h => ⟨h.1, RelL.pairs h.2⟩
  | [], _ :: _, h => h.elim
  | [_], [], h => h.elim
  | [_], _ :: _, h => h.elim
  | _ :: _ :: _, [], h => h.elim
theorem RelP.bits : ∀ {l : List Pr2} {cs : List Cx}, RelP l cs → bitsOf DBL cs = flatP l
  | [], [], _ => rfl
  | p :: r, c :: cs, h => by
    have := RelP.bits h.2
    unfold bitsOf at this ⊢
    rw [List.flatMap_cons, this, h.1.1.toBits, h.1.2.toBits]
    rfl
  | [], _ :: _, h => h.elim
  | _ :: _, [], h => h.elim
theorem RelP.length : ∀ {l : List Pr2} {cs : List Cx}, RelP l cs → l.length = cs.length
  | [], [], _ => rfl
  | _ :: _, _ :: _, h => by simp [RelP.length h.2]
  | [], _ :: _, h => h.elim
  | _ :: _, [], h => h.elim
theorem pairsOf_len : ∀ {n : Nat} {l : List Nat}, l.length = 2 * n → (pairsOf l).length = n
  | 0, l, h => by
    have : l = [] := List.eq_nil_of_length_eq_zero (by omega)
    subst this; rfl
  | n + 1, [], h => by simp at h
  | n + 1, [x], h => by simp at h; omega
  | n + 1, x :: y :: r, h => by
    have : (pairsOf r).length = n := pairsOf_len (by simp at h; omega)
    simp [pairsOf, this]
theorem pairsOf_mem : ∀ {l : List Nat} {p : Pr2}, p ∈ pairsOf l → p.1 ∈ l ∧ p.2 ∈ l
  | x :: y :: r, p, h => by
    simp only [pairsOf, List.mem_cons] at h
    rcases h with rfl | h
    · simp
    · have := pairsOf_mem h
      simp [this]
  | [], p, h => by simp [pairsOf] at h
  | [_], p, h => by simp [pairsOf] at h
/-- parts' bits -/
def Bt (p : Pr2) : Prop := p.1 < 2 ^ 64 ∧ p.2 < 2 ^ 64
theorem pairs_bt {l : List Nat} (h : ∀ x ∈ l, x < 2 ^ 64) : ∀ p ∈ pairsOf l, Bt p := fun p hp => ⟨h _ (pairsOf_mem hp).1, h _ (pairsOf_mem hp).2⟩
theorem flatP_append : ∀ (a b : List Pr2), flatP (a ++ b) = flatP a ++ flatP b
  | [], _ => rfl
  | p :: a, b => by simp [flatP, flatP_append a b]
theorem flatP_len : ∀ (a : List Pr2), (flatP a).length = 2 * a.length
  | [] => rfl
  | p :: a => by simp [flatP, flatP_len a]; omega

inductive Bad where
  | inf | piv
  deriving DecidableEq
def codeOf : Bad → Int
  | .inf => -3
  | .piv => -1
def ansR (r : Except Bad (List Pr2)) : List Int := match r with
  | .ok ps => 0 :: (flatP ps).map fun (x : Nat) => (x : Int)
  | .error b => [codeOf b]
def ansM (fin : Bool) (r : Except Bad (List Pr2)) : List Int := if fin = true then ansR r else [-2]
def exO {α : Type} : Option α → Except Bad α
  | some a => .ok a
  | none => .error .inf

theorem given_ans {o : Option (List Cx)} {p : Option (List Pr2)} (h : OR (fun cs l => RelP l cs) o p) :
    (given o).code :: (given o).out.map (fun (x : Nat) => (x : Int)) = ansR (exO p) := by
  cases o with
  | none => cases p with
    | none => rfl
    | some _ => exact h.elim
  | some cs => cases p with
    | none => exact h.elim
    | some l =>
      show (0 : Int) :: (bitsOf DBL cs).map _ = _
      rw [RelP.bits h]
      rfl

theorem numbers_relP {n : Nat} {l : List Nat} (hl : l.length = 2 * n) (hb : ∀ x ∈ l, x < 2 ^ 64) :
    (allFin l = true → ∃ cs, numbers DBL l = some cs ∧ RelP (pairsOf l) cs ∧ cs.length = n) ∧ (allFin l = false → numbers DBL l = none) := by
  obtain ⟨h1, h2⟩ := numbers_rel n l hl hb
  refine ⟨fun h => ?_, h2⟩
  obtain ⟨cs, e, r, q⟩ := h1 h
  exact ⟨cs, e, r.pairs, q⟩

theorem spec1 {F : List Cx → Ans} {G : List Pr2 → Except Bad (List Pr2)} {a : List Int} {n : Nat} (la : a.length = 2 * n) (pa : ∀ z ∈ a, 0 ≤ z ∧ z < 2 ^ 64)
    (h : ∀ (cs : List Cx) (ps : List Pr2), RelP ps cs → ps.length = n → (F cs).code :: (F cs).out.map (fun (x : Nat) => (x : Int)) = ansR (G ps)) :
    (let y : Ans := (match numbers DBL (Sc06Neutral.nats a) with
      | some a => F a
      | none => said (-2))
     y.code :: y.out.map fun (x : Nat) => (x : Int)) = ansM (allFin (Sc06Neutral.nats a)) (G (pairsOf (Sc06Neutral.nats a))) := by
  obtain ⟨a1, a2⟩ := numbers_relP (n := n) (l := Sc06Neutral.nats a) (by rw [nats_len]; exact la) (nats_lt pa)
  unfold ansM
  cases hfa : allFin (Sc06Neutral.nats a) with
  | false => rw [a2 hfa]; rfl
  | true =>
    obtain ⟨ca, ea, ra, lc⟩ := a1 hfa
    rw [ea, if_pos rfl]
    exact h ca _ ra (by rw [ra.length, lc])
end CxM

set_option linter.all false
namespace CxM
open Sc06

theorem row64_asked {a : List Int} (h : Sc06Neutral.row a 64 = true) : ∃ n, n ≤ 64 ∧ a.length = 2 * n ∧ ∀ z ∈ a, 0 ≤ z ∧ z < 2 ^ 64 := row_asked h
def ansW (inr : Bool) (fin : Bool) (r : Except Bad (List Pr2)) : List Int := if inr = true then ansM fin r else [-2]
end CxM

set_option linter.all false
namespace CxM
open Sc06

/-- less, by the signed units -/
theorem less_signed {x y : Nat} {a b : Num} (hx : Rel x a) (hy : Rel y b) : less a b = decide (signed x < signed y) := by
  obtain ⟨s1, j1, e1, l1, u1, m1⟩ := hx.read
  obtain ⟨s2, j2, e2, l2, u2, m2⟩ := hy.read
  obtain ⟨k, hk1, hk2, hk⟩ : ∃ k : Nat, k ≤ j1 ∧ k ≤ j2 ∧ min a.e b.e = (k : Int) - 1074 := ⟨min j1 j2, by omega, by omega, by omega⟩
  have z1 := hx.signed e1 hk1 u1
  have z2 := hy.signed e2 hk2 u2
  unfold less
  rw [hk, z1, z2]
  have pk' : (0 : Int) < ((2 ^ k : Nat) : Int) := Int.natCast_pos.mpr (Nat.two_pow_pos k)
  exact decide_eq_decide.mpr (Int.mul_lt_mul_right pk').symm
end CxM

set_option linter.all false
namespace CxM
open Sc06
def lexP (p q : Int × Int) : Bool := decide (p.1 < q.1) || (!decide (q.1 < p.1) && decide (p.2 < q.2))
theorem lexP_true {p q : Int × Int} : lexP p q = true ↔ p.1 < q.1 ∨ (p.1 = q.1 ∧ p.2 < q.2) := by
  simp only [lexP, Bool.or_eq_true, decide_eq_true_eq, Bool.and_eq_true, Bool.not_eq_true', decide_eq_false_iff_not]
  omega
theorem lexP_false {p q : Int × Int} : lexP p q = false ↔ q.1 < p.1 ∨ (p.1 = q.1 ∧ q.2 ≤ p.2) := by
  have h := lexP_true (p := p) (q := q)
  cases e : lexP p q
  · simp only [true_iff]
    rw [e] at h
    have h' : ¬ (p.1 < q.1 ∨ (p.1 = q.1 ∧ p.2 < q.2)) := fun z => by simpa using h.mpr z
    omega
  · rw [e] at h
    have h' := h.mp rfl
    constructor
    · intro z; cases z
    · intro z; omega
section
variable {α : Type} (key : α → Int × Int)
def putK (x : α) : List α → List α
  | [] => [x]
  | y :: r => if lexP (key x) (key y) = true then x :: y :: r else y :: putK x r
variable {key}
theorem mem_putK {x z : α} : ∀ {s : List α}, z ∈ putK key x s → z = x ∨ z ∈ s
  | [], h => by simpa [putK] using h
  | y :: r, h => by
    unfold putK at h
    split at h
    · simpa using h
    · rcases List.mem_cons.mp h with q | q
      · exact .inr (by simp [q])
      · rcases mem_putK q with q | q
        · exact .inl q
        · exact .inr (by simp [q])
def InOrd (key : α → Int × Int) (l : List α) : Prop := l.Pairwise fun a b => lexP (key b) (key a) = false
theorem putK_ord {x : α} : ∀ {s : List α}, InOrd key s → InOrd key (putK key x s)
  | [], _ => by simp [putK, InOrd]
  | y :: r, h => by
    have h' := List.pairwise_cons.mp h
    unfold putK
    split
    · rename_i c
      refine List.pairwise_cons.mpr ⟨fun z hz => ?_, h⟩
      have c' := lexP_true.mp c
      rcases List.mem_cons.mp hz with q | q
      · subst q
        exact lexP_false.mpr (by omega)
      · have := lexP_false.mp (h'.1 z q)
        exact lexP_false.mpr (by omega)
    · rename_i c
      refine List.pairwise_cons.mpr ⟨fun z hz => ?_, putK_ord h'.2⟩
      rcases mem_putK hz with q | q
      · rw [q]
        simpa using c
      · exact h'.1 z q
theorem putK_row {x : α} {c : Int × Int} : ∀ {s : List α}, InOrd key s → (putK key x s).filter (fun a => key a == c) = s.filter (fun a => key a == c) ++ if key x == c then [x] else []
  | [], _ => by
    show [x].filter _ = _
    rw [List.filter_cons]
    cases key x == c <;> simp
  | y :: r, h => by
    have h' := List.pairwise_cons.mp h
    unfold putK
    split
    · rename_i b
      have b' := lexP_true.mp b
      rw [List.filter_cons]
      by_cases e : key x = c
      · have e2 : (key x == c) = true := by simpa using e
        have none : (y :: r).filter (fun a => key a == c) = [] := by
          refine List.filter_eq_nil_iff.mpr fun z hz => ?_
          have ne : key z ≠ c := fun w => by
            rcases List.mem_cons.mp hz with q | q
            · subst q
              rw [← e] at w
              rw [w] at b'
              omega
            · have := lexP_false.mp (h'.1 z q)
              rw [w, ← e] at this
              omega
          simpa using ne
        rw [e2, if_pos rfl, if_pos rfl, none]
        rfl
      · have e2 : (key x == c) = false := by simpa using e
        rw [e2]
        simp
    · rw [List.filter_cons, putK_row h'.2, List.filter_cons]
      cases key y == c <;> simp
theorem foldK {l : List α} : ∀ {s : List α}, InOrd key s → InOrd key (l.foldl (fun s x => putK key x s) s) ∧ ∀ c, (l.foldl (fun s x => putK key x s) s).filter (fun a => key a == c) = s.filter (fun a => key a == c) ++ l.filter (fun a => key a == c) := by
  induction l with
  | nil => intro s h; exact ⟨h, fun c => by simp⟩
  | cons x l ih =>
    intro s h
    rw [List.foldl_cons]
    obtain ⟨h1, h2⟩ := ih (putK_ord (x := x) h)
    refine ⟨h1, fun c => ?_⟩
    rw [h2 c, putK_row h, List.filter_cons]
    cases key x == c <;> simp
theorem ord_uniq : ∀ {l m : List α}, InOrd key l → InOrd key m → (∀ c, l.filter (fun a => key a == c) = m.filter (fun a => key a == c)) → l = m
  | [], [], _, _, _ => rfl
  | [], y :: t, _, _, h => by
    have := h (key y)
    simp at this
  | x :: r, [], _, _, h => by
    have := h (key x)
    simp at this
  | x :: r, y :: t, h1, h2, h => by
    have mem : ∀ {l m : List α} {z : α}, (∀ c, l.filter (fun a => key a == c) = m.filter (fun a => key a == c)) → z ∈ l → z ∈ m := fun {l m z} h hz => by
      have q : z ∈ l.filter (fun a => key a == key z) := List.mem_filter.mpr ⟨hz, by simp⟩
      rw [h] at q
      exact (List.mem_filter.mp q).1
    have p1 := List.pairwise_cons.mp h1
    have p2 := List.pairwise_cons.mp h2
    have ek : key x = key y := by
      have a1 : key x = key y ∨ lexP (key x) (key y) = false := by
        rcases List.mem_cons.mp (mem h (List.mem_cons_self : x ∈ x :: r)) with q | q
        · exact .inl (by rw [q])
        · exact .inr (p2.1 x q)
      have a2 : key x = key y ∨ lexP (key y) (key x) = false := by
        rcases List.mem_cons.mp (mem (fun c => (h c).symm) (List.mem_cons_self : y ∈ y :: t)) with q | q
        · exact .inl (by rw [q])
        · exact .inr (p1.1 y q)
      rcases a1 with a1 | a1
      · exact a1
      · rcases a2 with a2 | a2
        · exact a2
        · have b1 := lexP_false.mp a1
          have b2 := lexP_false.mp a2
          exact Prod.ext (by omega) (by omega)
    have hx := h (key x)
    rw [List.filter_cons, List.filter_cons, ← ek, beq_self_eq_true, if_pos rfl, if_pos rfl] at hx
    obtain ⟨e1, e2⟩ := List.cons.inj hx
    subst e1
    congr 1
    refine ord_uniq p1.2 p2.2 fun c => ?_
    have hc := h c
    rw [List.filter_cons, List.filter_cons] at hc
    cases e : key x == c
    · rw [e] at hc
      simpa using hc
    · rw [e] at hc
      simpa using hc
end
def keyM (p : Pr2) : Int × Int := (signed p.1, signed p.2)
def sortM (l : List Pr2) : List Pr2 := l.foldl (fun s x => putK keyM x s) []
theorem sortM_is {ps rs : List Pr2} (h1 : rs.Pairwise fun a b => lexP (keyM b) (keyM a) = false) (h2 : ∀ c, rs.filter (fun p => keyM p == c) = ps.filter (fun p => keyM p == c)) : rs = sortM ps := by
  have h0 : InOrd keyM ([] : List Pr2) := List.Pairwise.nil
  obtain ⟨q1, q2⟩ := foldK (key := keyM) (l := ps) h0
  exact ord_uniq (key := keyM) h1 q1 fun c => by rw [h2 c]; exact (q2 c).symm
theorem before_rel {a b : Cx} {x y : Pr2} (hx : RelC a x) (hy : RelC b y) : before a b = lexP (keyM x) (keyM y) := by
  unfold before lexP
  rw [less_signed hx.1 hy.1, less_signed hy.1 hx.1, less_signed hx.2 hy.2]
  rfl
theorem put_rel {c : Cx} {x : Pr2} (hx : RelC c x) : ∀ {s : List Pr2} {cs : List Cx}, RelP s cs → RelP (putK keyM x s) (put c cs)
  | [], [], _ => ⟨hx, trivial⟩
  | y :: s, d :: cs, h => by
    unfold putK put
    rw [before_rel hx h.1]
    split
    · exact ⟨hx, h⟩
    · exact ⟨h.1, put_rel hx h.2⟩
  | [], _ :: _, h => h.elim
  | _ :: _, [], h => h.elim
theorem sort_rel : ∀ {ps : List Pr2} {cs : List Cx} {s : List Pr2} {t : List Cx}, RelP ps cs → RelP s t → RelP (ps.foldl (fun s x => putK keyM x s) s) (cs.foldl (fun s x => put x s) t)
  | [], [], _, _, _, h => h
  | x :: ps, c :: cs, s, t, h, k => by
    rw [List.foldl_cons, List.foldl_cons]
    exact sort_rel h.2 (put_rel h.1 k)
  | [], _ :: _, _, _, h, _ => h.elim
  | _ :: _, [], _, _, h, _ => h.elim
theorem sort_spec {a : List Int} (h : PySc06.sort_asked a = true) :
    PySc06.sort a = ansM (allFin (Sc06Neutral.nats a)) (.ok (sortM (pairsOf (Sc06Neutral.nats a)))) := by
  obtain ⟨n, hn, la, pa⟩ := row64_asked (asked1_of h)
  refine spec1 (F := fun a => given (some (sorted a))) (G := fun a => .ok (sortM a)) la pa fun cs ps r _ => ?_
  exact given_ans (o := some (sorted cs)) (p := some (sortM ps)) (sort_rel r (s := []) (t := []) trivial)
end CxM

set_option Elab.async false
set_option linter.all false
set_option maxRecDepth 100000
set_option maxHeartbeats 2000000
namespace L2
open PySem PySem.Spec PyProof.Rows

theorem ObjOk.there {P : Program} {w : World} {H : Hp} {h : Heap} {a : Addr} {o : HO} (x : ObjOk P w H h a o) : ∃ ob, h.get? a = some ob := by
  cases o with
  | lst xs => obtain ⟨_, _, _, _, e⟩ := x; exact ⟨_, e⟩
  | tup xs => obtain ⟨_, _, _, _, e, _⟩ := x; exact ⟨_, e⟩
  | dK kvs => obtain ⟨_, _, _, _, o, _, _, e, _⟩ := x; exact ⟨_, e⟩
  | dT kvs => obtain ⟨_, _, _, _, o, _, _, e, _⟩ := x; exact ⟨_, e⟩
  | set S n => obtain ⟨o, _, _, _, e, _⟩ := x; exact ⟨_, e⟩
  | ins C dx fs => obtain ⟨_, _, _, e, _⟩ := x; exact ⟨_, e⟩
  | own y => obtain ⟨_, e⟩ := x; exact ⟨_, e⟩
  | xd fs => obtain ⟨_, ⟨_, _, _, e, _⟩, _⟩ := x; exact ⟨_, e⟩
  | rng lo hi => obtain ⟨_, _, _, e⟩ := x; exact ⟨_, e⟩
  | frz ob u => obtain ⟨e, _⟩ := x; exact ⟨_, e⟩
  | tbl ps => exact ⟨_, (show h.get? a = some _ from x)⟩
  | met f y => exact ⟨_, (show h.get? a = some _ from x)⟩
  | ext φ => obtain ⟨_, ⟨_, e⟩, _⟩ := x; exact ⟨_, e⟩

/-- an exception of the class at C flies: what stood at the call's start, but for the callers' frames, and all that is tracked lies in B, which no station changes -/
def CX1 (P : Program) (w : World) : CXT := fun outer H s E e s' =>
  ∃ (a C t : Addr) (B : Heap) (H' : Hp), e = .ref a ∧ s'.os = s.os ∧ AllBare s'.gens ∧ Un (frs outer) [] H H' s.heap s'.heap ∧ HOk P w H' s'.heap ∧
    Heap.FlyingW B outer a (.ref C) (.ref t) s'.heap ∧ (∀ b o, s.heap.get? b = some o → b ∉ frs outer → ∃ o', B.get? b = some o') ∧
    (∀ b u, H' b = some u → ∃ o', B.get? b = some o') ∧ E (.ref C) none H'

section
variable {P : Program} {w : World} {outer : List Env} {H0 H' : Hp} {h0 h1 h2 B : Heap} {ex : List Addr}
theorem fly_un (u : Un (frs outer) ex H0 H' h0 h1) (st1 : B.StaysIn h1) (st2 : B.StaysIn h2) (sl : h1.UpToSlots h2) (ff : h1.FunFrames B outer)
    (cov : ∀ b o, h0.get? b = some o → b ∉ frs outer → b ∉ ex → ∃ o', B.get? b = some o') : Un (frs outer) ex H0 H' h0 h2 where
  keep := fun b o e n hb hx => by
    obtain ⟨o', q⟩ := cov b o e hb hx
    have e1 := u.keep b o e n hb hx
    have e2 := st1 b o' q
    rw [e1] at e2
    cases e2
    exact st2 b _ q
  slot := fun b o e n hb hx => by
    obtain ⟨sl1, e1⟩ := u.slot b o e n hb hx
    obtain ⟨o2, e2, nf⟩ := (ff.mem hb).2
    rw [e1] at e2
    cases e2
    obtain ⟨sl2, e3⟩ := sl b _ e1 nf
    exact ⟨sl2, e3⟩
  free := u.free
  there := fun b o e hx => by
    by_cases hb : b ∈ frs outer
    · obtain ⟨o1, e1, nf⟩ := (ff.mem hb).2
      obtain ⟨sl2, e3⟩ := sl b _ e1 nf
      exact ⟨_, e3⟩
    · obtain ⟨o', q⟩ := cov b o e hb hx
      exact ⟨_, st2 b _ q⟩
  tups := u.tups
  frzs := u.frzs
  tbls := u.tbls
theorem fly_hok (hok : HOk P w H' h1) (st1 : B.StaysIn h1) (st2 : B.StaysIn h2) (cov : ∀ b u, H' b = some u → ∃ o', B.get? b = some o') : HOk P w H' h2 := fun b u e => by
  refine (hok b u e).stay (fun c v hc q => ?_) (fun _ q => q) fun _ _ q => q
  have hB : ∃ o', B.get? c = some o' := by
    rcases hc with rfl | hc
    · exact cov _ _ e
    · exact cov _ _ hc
  obtain ⟨o', q'⟩ := hB
  have e2 := st1 c o' q'
  rw [q] at e2
  cases e2
  exact st2 c _ q'
end

/-- a def's own body (or a part of it) -/
structure Body (X : Cx) : Prop where
  stk : X.stack = X.env :: X.outer
  fr : X.env.frame = some X.env.locals
  ex : X.ex = []

section
variable {X : Cx} {pins : List (Addr × Obj)} {σ : St} {H H' : Hp} {s s' : Shared}
theorem Inv.noStack (I : Inv X pins σ H s) (hb : Body X) {b : Addr} (hlt : b < X.s_0.heap.objs.size) (hn : b ∉ X.fs) : b ∉ frs X.stack := by
  rw [hb.stk]
  intro z
  have z' : b ∈ X.env.locals :: frs X.outer := by
    have e : frs (X.env :: X.outer) = X.env.locals :: frs X.outer := by
      unfold frs
      rw [List.filterMap_cons, hb.fr]
    rw [e] at z
    exact z
  rcases List.mem_cons.mp z' with q | q
  · have := I.ok.above
    rw [q] at hlt
    exact absurd hlt (Nat.not_lt.mpr this)
  · exact hn q
theorem not_stack (hb : Body X) {b : Addr} (h1 : b ∉ X.fs) (h2 : b ≠ X.env.locals) : b ∉ frs X.stack := by
  rw [hb.stk]
  have e : frs (X.env :: X.outer) = X.env.locals :: frs X.outer := by
    unfold frs
    rw [List.filterMap_cons, hb.fr]
  rw [e]
  intro z
  rcases List.mem_cons.mp z with q | q
  · exact h2 q
  · exact h1 q

/-- the state where an exception has come to this body: the body's own invariant holds on, whatever the stations do -/
theorem fly_inv {B h2 : Heap} {a C t : Addr} (I : Inv X pins σ H s) (hb : Body X) (os : s'.os = s.os) (bare : AllBare s'.gens) (un : Un (frs X.stack) [] H H' s.heap s'.heap) (hok : HOk X.prog X.w H' s'.heap)
    (fl : Heap.FlyingW B X.stack a (.ref C) (.ref t) s'.heap) (c1 : ∀ b o, s.heap.get? b = some o → b ∉ frs X.stack → ∃ o', B.get? b = some o') (c2 : ∀ b u, H' b = some u → ∃ o', B.get? b = some o')
    (st2 : B.StaysIn h2) (sl : s'.heap.UpToSlots h2) : Inv X pins σ H' { s' with heap := h2 } := by
  have J : Inv X pins σ H' s' := I.call' os un hok bare (fun b z => absurd z (by simp))
  have st1 : B.StaysIn s'.heap := fl.1
  have ff : s'.heap.FunFrames B X.stack := fl.2.2.1
  have ffo : s'.heap.FunFrames B X.outer := by
    have := ff
    rw [hb.stk] at this
    exact this.2.2
  have keepB : ∀ b o, s'.heap.get? b = some o → (∃ o', B.get? b = some o') → h2.get? b = some o := fun b o e ⟨o', q⟩ => by
    have e2 := st1 b o' q
    rw [e] at e2
    cases e2
    exact st2 b _ q
  refine ⟨J.ok, J.os, J.bare, ?_, ?_, fun x c e => ?_, J.free, J.freeC, fun p hp => ?_, fly_hok J.hok st1 st2 c2, J.len⟩
  · refine fly_un J.base st1 st2 sl ffo fun b o e hb' _ => ?_
    obtain ⟨o1, e1⟩ := I.base.there b o e (by rw [hb.ex]; simp)
    exact c1 b o1 e1 (I.noStack hb (Heap.lt_size e) hb')
  · obtain ⟨m, hn, hl⟩ := J.loc
    refine ⟨m, sl.ns hn, fun i x v e1 e2 e3 => ?_⟩
    obtain ⟨u, r, q⟩ := hl i x v e1 e2 e3
    refine ⟨u, r, ?_⟩
    rcases q with q | ⟨k, c, e, oc, hoc, hd⟩
    · exact .inl q
    · obtain ⟨sl', e'⟩ := sl c oc hoc fun vs z => by rw [hd] at z; cases z
      exact .inr ⟨k, c, e, _, e', hd⟩
  · obtain ⟨v, oc, hoc, hd⟩ := J.cell x c e
    obtain ⟨sl', e'⟩ := sl c oc hoc fun vs z => by rw [hd] at z; cases z
    exact ⟨v, _, e', hd⟩
  · obtain ⟨e, n, ne, nf, d⟩ := J.pin p hp
    obtain ⟨e0, _⟩ := I.pin p hp
    exact ⟨keepB _ _ e (c1 _ _ e0 (not_stack hb nf ne)), n, ne, nf, d⟩

/-- the same place, another view of what is around -/
theorem Inv.swap {pins' pn' : List (Addr × Obj)} {c : Bool} {xe' : Value → Shared → Prop} (A' : Around) (I : Inv X pins σ H s) (hc : c = true → A'.handled = none) (hf : A'.frames = some X.stack) (hp : ∀ p ∈ pn' ++ pins', p ∈ X.pn ++ pins) :
    Inv { X with A := A', calm := c, xe := xe', pn := pn' } pins' σ H s :=
  ⟨⟨I.ok.mod, I.ok.kind, I.ok.glob, I.ok.blt, I.ok.above, I.ok.inj, I.ok.has, I.ok.cab, hc, hf, I.ok.stk, I.ok.exf, I.ok.bs, I.ok.bsz, I.ok.noex, I.ok.exfs, I.ok.funs, I.ok.frf⟩,
    I.os, I.bare, I.base, I.loc, I.cell, I.free, I.freeC, fun p q => I.pin p (hp p q), I.hok, I.len⟩
end

section
variable {P : Program} {w : World} {K : PySem.W.Frag} {mg : Str → Option Value} {base : Heap} {N : List Str} {qual : Str} {scope : Scope} {f : Addr} {cd : Value} {A : Around} {outer : List Env} {s0 : Shared} {H0 : Hp} {E : XK}
end

theorem own_mk {K : PySem.W.Frag} {h : Heap} {x : Str} {C : Addr} {bmB : List Value} {newId : String} {mg : Str → Option Value} (KX : K.In h) (hm : mg x = some (.ref C)) (q : PySem.W.excIn K C bmB newId = true) : OwnCls x C bmB newId mg h := by
  refine ⟨hm, ?_⟩
  unfold PySem.W.excIn at q
  split at q
  · rename_i dd cdt slots look
    split at q
    · rename_i C2 tl j0 j1 j2 j3 n j5 mro_is slots_are
      rw [Bool.and_eq_true, Bool.and_eq_true, Bool.and_eq_true, Bool.and_eq_true, Bool.and_eq_true] at q
      obtain ⟨⟨⟨⟨⟨q1, q2⟩, q3⟩, q4⟩, q5⟩, q6⟩ := q
      have r1 : C2 = C := beq_iff_eq.mp q1
      have r2 : n = newId := beq_iff_eq.mp q2
      have r6 := beq_iff_eq.mp q6
      subst r1 r2
      obtain ⟨nm, bs, mro, ns, qn, hd, sn, sub, ab, col, del⟩ := cdt
      have r3 : del = false := by
        cases del
        · rfl
        · cases q3
      have m2 : mro = Value.ref C2 :: tl := mro_is
      subst r3 m2
      obtain ⟨l⟩ := slots
      have s2 : l = [j0, j1, j2, j3, some (.builtin n), j5] := slots_are
      subst s2
      exact ⟨tl, ns, nm, qn, bs, hd, sn, sub, ab, col, dd, j0, j1, j2, j3, j5, _, KX _ _ look, .of_isNs (PySem.W.isNs_of_in KX q5), PySem.W.nsMap_none_of_in KX q5 r6, PySem.W.tail_of_in KX q4⟩
    · cases q
  · cases q

abbrev bmA : List Value := [.type "ArithmeticError", .type "Exception", .type "BaseException", .type "object"]
abbrev newA : String := "ArithmeticError.__new__"

section
variable {X : Cx}
end
section
variable {P : Program} {w : World} {K : PySem.W.Frag} {mg : Str → Option Value} {base : Heap} {N : List Str} {qual : Str} {scope : Scope} {f : Addr} {cd : Value} {A : Around} {outer : List Env} {s0 : Shared} {H0 : Hp} {E : XK}
end

section
variable {X : Cx}
def tTry (C : Addr) (tb : XK → TS) (th : TS) : TS := fun D σ H => tb (fun c _ H' => c = .ref C ∧ ∀ σ', th D σ' H') D σ H
theorem ps_try {body suite : List Stmt} {b0 : Stmt} {hs' : List ExceptHandler} {x : Str} {np hpos pos : Pos} {C : Addr} {tb : XK → TS} {th : TS} (hX : Body X) (hc : X.calm = true) (hg : Gl X x) (hm : X.mg x = some (.ref C)) (q : PySem.W.excIn X.K C bmA newA = true)
    (hb : ∀ (xe' : Value → Shared → Prop) (pn' : List (Addr × Obj)) (E : XK), PassesOwn (model X.prog X.w) X.A X.env xe' → Passes (CX1 X.prog X.w) { X with A := X.A, calm := true, xe := xe', pn := pn' } E → PSs { X with A := X.A, calm := true, xe := xe', pn := pn' } body (tb E))
    (hs : ∀ (A' : Around) (xe' : Value → Shared → Prop) (pn' : List (Addr × Obj)), PSs { X with A := A', calm := false, xe := xe', pn := pn' } (b0 :: suite) th) (hd : (x == ("__debug__" : Str)) = false := by decide) :
    PS X (.Try body (.ExceptHandler (some (.Name x np)) none (b0 :: suite) hpos :: hs') [] [] pos) (tTry C tb th) := by
  intro pins s σ H D I h
  refine wpAny_Try_except ?_
  have I' : Inv { X with A := X.A, calm := true, xe := fun e s₁ => wpAny (model X.prog X.w) X.A (noteFrame e X.env) (fun _ s₂ => wpAny (model X.prog X.w) X.A (setFlight e none) (fun _ s₃ =>
      wpAny (model X.prog X.w) X.A (handleBy e X.env (.ExceptHandler (some (.Name x np)) none (b0 :: suite) hpos :: hs')) (SP X pins D) X.xe s₃) X.xe s₂) X.xe s₁, pn := X.pn ++ pins } [] σ H s :=
    I.swap X.A (fun _ => I.ok.hd hc) I.ok.frames (by simp)
  refine wpAny_mono (hb _ (X.pn ++ pins) (fun c _ H' => c = .ref C ∧ ∀ σ', th D σ' H') PassesOwn.looking ?_ [] s σ H D I' h) (fun fl s1 hq => ?_) fun _ _ z => z
  · intro pins2 σ2 H2 s2 e s3 I2 ⟨a, C2, t, B, H', he, os, bare, un, hok, fl, c1, c2, hC2, hE⟩
    subst he
    obtain rfl : C2 = C := by injection hC2
    have I3 : Inv X pins σ2 H2 s2 := by
      have := I2.swap (c := X.calm) (xe' := X.xe) (pn' := X.pn) (pins' := pins) X.A (fun z => I2.ok.hd rfl) I2.ok.frames (fun p hp => List.mem_append_left _ hp)
      exact this
    have fl' : Heap.FlyingW B (X.env :: X.outer) a (.ref C2) (.ref t) s3.heap := by
      have := fl
      rw [show ({ X with A := X.A, calm := true, xe := _, pn := X.pn ++ pins } : Cx).stack = X.stack from rfl, hX.stk] at this
      exact this
    show wpAny _ _ _ _ _ _
    refine wpAny_looks_onW (I3.ok.frames.trans (congrArg some hX.stk)) hX.fr fl' fun h4 held4 sm4 => ?_
    refine wpAny_landsW held4 fun h5 fl5 sm5 => ?_
    have sm45 := sm4.trans sm5
    have J5 : Inv X pins σ2 H' { s3 with heap := h5 } := fly_inv I3 hX os bare un hok fl c1 c2 fl5.1 sm45
    have M5 : Inv { X with A := X.A.mark (some (.ref a)), calm := false, xe := fun _ _ => False, pn := X.pn } pins σ2 H' { s3 with heap := h5 } := J5.swap _ (fun z => by cases z) (by show X.A.frames = _; exact J5.ok.frames) (fun p hp => hp)
    obtain ⟨ob, hob, hobc⟩ := fl5.there
    refine wpAny_handleBy_cons (codeAny_handlers_test (ld_glob M5 hg hm ?_ hd)) (by intro z; cases z)
    have O : OwnCls x C2 bmA newA X.mg h5 := own_mk J5.kIn hm q
    obtain ⟨tl, N, nm, qn, bs, hdct, sn, sub, ab, col, dd, k0, k1, k2, k3, k5, mN, hC, hN, hni, T⟩ := O.obj
    refine wpAny_excMatches_sub_self hC hob hobc (T.hasType (by decide +kernel)) (codeAny_handlers_suite ?_)
    refine lands_againW fl5 fun h6 fl6 sm6 => ?_
    have J6 : Inv X pins σ2 H' { s3 with heap := h6 } := fly_inv I3 hX os bare un hok fl c1 c2 fl6.1 (sm45.trans sm6)
    refine wpAny_mono (hs (X.A.mark (some (.ref a))) _ X.pn pins { s3 with heap := h6 } σ2 H' D (J6.swap _ (fun z => by cases z) (by show X.A.frames = _; exact J6.ok.frames) (fun p hp => hp)) (hE σ2)) (fun fl s7 hq => ?_) fun _ _ z => z
    have back : ∀ {σ' : St} {H'' : Hp} {xe' : Value → Shared → Prop}, Inv { X with A := X.A.mark (some (.ref a)), calm := false, xe := xe', pn := X.pn } pins σ' H'' s7 → Inv X pins σ' H'' s7 := fun {σ' H'' xe'} K => by
      have := K.swap (c := X.calm) (xe' := X.xe) (pn' := X.pn) (pins' := pins) X.A (fun z => I.ok.hd z) I.ok.frames (fun p hp => hp)
      exact this
    cases fl with
    | next => obtain ⟨σ', H'', K, r⟩ := hq; exact ⟨σ', H'', back K, r⟩
    | brk => obtain ⟨σ', H'', K, r⟩ := hq; exact ⟨σ', H'', back K, r⟩
    | cont => obtain ⟨σ', H'', K, r⟩ := hq; exact ⟨σ', H'', back K, r⟩
    | ret u => obtain ⟨v, σ', H'', K, rv, r⟩ := hq; exact ⟨v, σ', H'', back K, rv, r⟩
  · have back : ∀ {σ' : St} {H'' : Hp} {xe' : Value → Shared → Prop}, Inv { X with A := X.A, calm := true, xe := xe', pn := X.pn ++ pins } [] σ' H'' s1 → Inv X pins σ' H'' s1 := fun {σ' H'' xe'} K => by
      have := K.swap (c := X.calm) (xe' := X.xe) (pn' := X.pn) (pins' := pins) X.A (fun z => I.ok.hd z) I.ok.frames (fun p hp => List.mem_append_left _ hp)
      exact this
    cases fl with
    | next => obtain ⟨σ', H'', K, r⟩ := hq; exact wpAny_execs_nil ⟨σ', H'', back K, r⟩
    | brk => obtain ⟨σ', H'', K, r⟩ := hq; exact ⟨σ', H'', back K, r⟩
    | cont => obtain ⟨σ', H'', K, r⟩ := hq; exact ⟨σ', H'', back K, r⟩
    | ret u => obtain ⟨v, σ', H'', K, rv, r⟩ := hq; exact ⟨v, σ', H'', back K, rv, r⟩
end

section
variable {P : Program} {w : World} {K : PySem.W.Frag} {mg : Str → Option Value} {base : Heap}
theorem Fun.okX {CX : CXT} {x qual : Str} {st : Stmt} {f : Addr} {fd : FuncData} {N ps : List Str} {k : Nat} {sp : Sp} (F : Fun K x qual st f fd) (S : FnScope N ps (defScope st)) (len : ∀ vs H Q E, sp vs H Q E → vs.length = ps.length)
    (hbody : ∀ (cdv : Value) (A : Around) (outer : List Env) (s : Shared) (H : Hp) (vs : List V) (Q : VK) (E : XK), Room k (A.deeper (envOfC qual (defScope st) s.heap.objs.size f cdv)) → sp vs H Q E →
      ∃ t, PSs (cxOf CX P w K mg base N qual (defScope st) f cdv A outer s H E) (defBody st) t ∧ t { nx := fun _ H' => Q .non H', rt := Q } (start N vs) H) : FnOk P w K mg base CX (k + 1) f fd ps sp := by
  obtain ⟨oc, od, kV, doc, pm, an, cdv, ct, osl, rfl, lk, hcd⟩ := F.ex
  exact fn_of lk hcd S len fun A outer s H vs Q E hr hsp => hbody cdv A outer s H vs Q E hr hsp
end
section
variable {X : Cx} {CX : CXT} {k : Nat} {f : Addr} {fd : FuncData} {ps : List Str} {sp : Sp} {dvs : List V} {ds : List Value} {E : XK} {x : Str} {p pos : Pos} {e : Expr} {es : List Expr} {t : TA}
end

section
variable {X : Cx}
/-- a shift of any int of less than a million bits -/
def CShl (i j : Int) : Prop := 0 ≤ j ∧ (Builtin.Int.intBits i : Int) + j ≤ 2 ^ 27
theorem op_shlB : OpR X (binaryOp .LShift) (rI CShl fun i j => .int (i * 2 ^ j.toNat)) := opI fun _ _ _ _ _ _ _ hc q => lshift_int hc.1 hc.2 q
/-- a quotient by any int of less than nine thousand bits -/
def CFd (_ j : Int) : Prop := j ≠ 0 ∧ j.natAbs.log2 < 9000
theorem op_fdivB : OpR X (binaryOp .FloorDiv) (rI CFd fun i j => .int (i.fdiv j)) := opI fun _ _ _ _ _ _ _ hc q => floordiv_int hc.1 q (.inl (PyProof.noPylong_of_log2 hc.2))
end
end L2

set_option Elab.async false
set_option linter.all false
set_option maxRecDepth 100000
set_option maxHeartbeats 2000000
namespace L2
open PySem PySem.Spec PyProof.Rows

/-- a def of the text as it stands behind the top -/
structure FunB (K : PySem.W.Frag) (mg : Str → Option Value) (x : Str) (st : Stmt) (ps : List Str) : Prop where
  ex : ∃ (f : Addr) (fd : FuncData), mg x = some (.ref f) ∧ Binds K fd ps [] ∧ Fun K x x st f fd
/-- .. and its promise -/
structure Dep (P : Program) (w : World) (K : PySem.W.Frag) (mg : Str → Option Value) (base : Heap) (CX : CXT) (k : Nat) (x : Str) (ps : List Str) (sp : Sp) : Prop where
  ex : ∃ (f : Addr) (fd : FuncData), mg x = some (.ref f) ∧ PySem.W.keepIn K (.ref f) = true ∧ Binds K fd ps [] ∧ FnOk P w K mg base CX k f fd ps sp
section
variable {P : Program} {w : World} {K : PySem.W.Frag} {mg : Str → Option Value} {base : Heap}
theorem dep_of {CX : CXT} {x : Str} {st : Stmt} {N ps : List Str} {k : Nat} {sp : Sp} (B : FunB K mg x st ps) (S : FnScope N ps (defScope st)) (len : ∀ vs H Q E, sp vs H Q E → vs.length = ps.length)
    (hbody : ∀ (f : Addr) (cdv : Value) (A : Around) (outer : List Env) (s : Shared) (H : Hp) (vs : List V) (Q : VK) (E : XK), Room k (A.deeper (envOfC x (defScope st) s.heap.objs.size f cdv)) → sp vs H Q E →
      ∃ t, PSs (cxOf CX P w K mg base N x (defScope st) f cdv A outer s H E) (defBody st) t ∧ t { nx := fun _ H' => Q .non H', rt := Q } (start N vs) H) : Dep P w K mg base CX (k + 1) x ps sp := by
  obtain ⟨f, fd, m, b, F⟩ := B.ex
  exact ⟨f, fd, m, F.kp, b, F.okX S len (hbody f)⟩
end
section
variable {X : Cx} {CX : CXT} {k k' : Nat} {ps : List Str} {sp : Sp} {E : XK} {x : Str} {p pos : Pos} {e : Expr} {es : List Expr} {t : TA}
theorem pe_dep (D : Dep X.prog X.w X.K X.mg X.base CX k x ps sp) (hr : Room k' X.A) (hx : Passes CX X E) (ha : PA X (e :: es) t) (hg : Gl X x := by rfl) (hle : k ≤ k' := by decide) (hdb : (x == ("__debug__" : Str)) = false := by decide)
    (he : starEach (e :: es) X.env = (false, eval e X.env) :: starEach es X.env := by rfl) (hpl : (backTo pos (starEach es X.env)).any (·.1) = false := by rfl) :
    PE X (.Call (.Name x p) (e :: es) [] pos) (tCall sp [] E t) := by
  obtain ⟨f, fd, m, kp, b, G⟩ := D.ex
  exact pe_call G (hr.mono hle) hg m kp b .nil hx ha hdb he hpl
end
end L2

set_option Elab.async false
set_option linter.all false
set_option maxRecDepth 100000
set_option maxHeartbeats 2000000
namespace L2
open PySem PySem.Spec PyProof.Rows

abbrev fz (o : Obj) : HO := .frz o (.own 0)
def ov (H : Hp) (cs : List (Addr × Obj)) : Hp := fun b => match cs.lookup b with
  | some o => some (fz o)
  | none => H b
def cut (H : Hp) (cs : List (Addr × Obj)) : Hp := fun b => match cs.lookup b with
  | some _ => none
  | none => H b
section
variable {P : Program} {w : World} {H H' : Hp} {h h' : Heap} {cs : List (Addr × Obj)} {fs : List Addr} {b : Addr} {o : Obj}
theorem ov_in (q : cs.lookup b = some o) : ov H cs b = some (fz o) := by unfold ov; rw [q]
theorem ov_out (q : cs.lookup b = none) : ov H cs b = H b := by unfold ov; rw [q]
theorem cut_in (q : cs.lookup b = some o) : cut H cs b = none := by unfold cut; rw [q]
theorem cut_out (q : cs.lookup b = none) : cut H cs b = H b := by unfold cut; rw [q]
theorem cut_some {u : HO} (q : cut H cs b = some u) : cs.lookup b = none ∧ H b = some u := by
  cases e : cs.lookup b with
  | none => rw [cut_out e] at q; exact ⟨rfl, q⟩
  | some o => rw [cut_in e] at q; cases q

theorem hok_cut (ok : HOk P w H' h') (hc : ∀ b o, cs.lookup b = some o → H' b = some (fz o)) : HOk P w (cut H' cs) h' := fun b u e => by
  obtain ⟨q, e'⟩ := cut_some e
  refine (ok b u e').stay (fun _ _ _ z => z) (fun c z => ?_) fun c xs z => ?_
  · cases q2 : cs.lookup c with
    | none => rw [cut_out q2]; exact z
    | some o => rw [hc c o q2] at z; cases z
  · cases q2 : cs.lookup c with
    | none => rw [cut_out q2]; exact z
    | some o => rw [hc c o q2] at z; cases z
theorem hok_ov (ok : HOk P w H' h') (hc : ∀ b o, cs.lookup b = some o → h'.get? b = some o ∧ H' b = none) : HOk P w (ov H' cs) h' := fun b u e => by
  cases q : cs.lookup b with
  | some o =>
    rw [ov_in q] at e
    cases e
    exact ⟨(hc b o q).1, _, (hc b o q).1⟩
  | none =>
    rw [ov_out q] at e
    refine (ok b u e).stay (fun _ _ _ z => z) (fun c z => ?_) fun c xs z => ?_
    · cases q2 : cs.lookup c with
      | none => rw [ov_out q2]; exact z
      | some o => rw [(hc c o q2).2] at z; cases z
    · cases q2 : cs.lookup c with
      | none => rw [ov_out q2]; exact z
      | some o => rw [(hc c o q2).2] at z; cases z
/-- behind a callee that was told the cells -/
theorem un_ov_back (u : Un fs [] (ov H cs) H' h h') (ok : HOk P w H' h') (hc : ∀ b o, cs.lookup b = some o → h.get? b = some o ∧ H b = none ∧ b ∉ fs) : Un fs [] H (cut H' cs) h h' where
  keep := fun b o e n hb hx => by
    cases q : cs.lookup b with
    | none => exact u.keep b o e (by rw [ov_out q]; exact n) hb hx
    | some o2 =>
      have e2 := (hc b o2 q).1
      rw [e] at e2
      cases e2
      obtain ⟨e3, _⟩ := ok b _ (u.frzs b o (.own 0) (ov_in q))
      exact e3
  slot := fun b o e n hb hx => by
    cases q : cs.lookup b with
    | none => exact u.slot b o e (by rw [ov_out q]; exact n) hb hx
    | some o2 => exact absurd hb (hc b o2 q).2.2
  free := fun b o e n hx => by
    cases q : cs.lookup b with
    | none => rw [cut_out q]; exact u.free b o e (by rw [ov_out q]; exact n) hx
    | some o2 => exact cut_in q
  there := u.there
  tups := fun b xs e => by
    cases q : cs.lookup b with
    | none => rw [cut_out q]; exact u.tups b xs (by rw [ov_out q]; exact e)
    | some o2 => rw [(hc b o2 q).2.1] at e; cases e
  frzs := fun b o x e => by
    cases q : cs.lookup b with
    | none => rw [cut_out q]; exact u.frzs b o x (by rw [ov_out q]; exact e)
    | some o2 => rw [(hc b o2 q).2.1] at e; cases e
  tbls := fun b ps e => by
    cases q : cs.lookup b with
    | none => rw [cut_out q]; exact u.tbls b ps (by rw [ov_out q]; exact e)
    | some o2 => rw [(hc b o2 q).2.1] at e; cases e
/-- behind a body that forgot them -/
theorem un_cut_fwd (u : Un fs [] (cut H cs) H' h h') (hc : ∀ b o, cs.lookup b = some o → H b = some (fz o) ∧ h.get? b = some o ∧ b ∉ fs) : Un fs [] H (ov H' cs) h h' where
  keep := fun b o e n hb hx => by
    cases q : cs.lookup b with
    | none => exact u.keep b o e (by rw [cut_out q]; exact n) hb hx
    | some o2 => rw [(hc b o2 q).1] at n; cases n
  slot := fun b o e n hb hx => by
    cases q : cs.lookup b with
    | none => exact u.slot b o e (by rw [cut_out q]; exact n) hb hx
    | some o2 => rw [(hc b o2 q).1] at n; cases n
  free := fun b o e n hx => by
    cases q : cs.lookup b with
    | none => rw [ov_out q]; exact u.free b o e (by rw [cut_out q]; exact n) hx
    | some o2 => rw [(hc b o2 q).1] at n; cases n
  there := u.there
  tups := fun b xs e => by
    cases q : cs.lookup b with
    | none => rw [ov_out q]; exact u.tups b xs (by rw [cut_out q]; exact e)
    | some o2 => rw [(hc b o2 q).1] at e; cases e
  frzs := fun b o x e => by
    cases q : cs.lookup b with
    | none => rw [ov_out q]; exact u.frzs b o x (by rw [cut_out q]; exact e)
    | some o2 =>
      rw [(hc b o2 q).1] at e
      rw [ov_in q]
      exact e
  tbls := fun b ps e => by
    cases q : cs.lookup b with
    | none => rw [ov_out q]; exact u.tbls b ps (by rw [cut_out q]; exact e)
    | some o2 => rw [(hc b o2 q).1] at e; cases e
/-- the cells themselves, behind such a body -/
theorem cells_kept (u : Un fs [] (cut H cs) H' h h') (hc : ∀ b o, cs.lookup b = some o → H b = some (fz o) ∧ h.get? b = some o ∧ b ∉ fs) : ∀ b o, cs.lookup b = some o → h'.get? b = some o ∧ H' b = none := fun b o q =>
  ⟨u.keep b o (hc b o q).2.1 (cut_in q) (hc b o q).2.2 (by simp), u.free b o (hc b o q).2.1 (cut_in q) (by simp)⟩
end

def cxL (CX : CXT) (P : Program) (w : World) (K : PySem.W.Frag) (mg : Str → Option Value) (base : Heap) (N : List Str) (qual : Str) (scope : Scope) (f : Addr) (cd : Value) (cl : List (Str × Addr)) (A : Around) (outer : List Env) (s : Shared) (H : Hp) (E : XK) : Cx where
  prog := P
  w := w
  K := K
  mg := mg
  base := base
  A := A.deeper (PySem.W.envX qual scope s.heap.objs.size f cd cl)
  N := N
  s_0 := s
  H_0 := H
  env := PySem.W.envX qual scope s.heap.objs.size f cd cl
  outer := outer
  stack := PySem.W.envX qual scope s.heap.objs.size f cd cl :: outer
  ex := []
  calm := true
  fn := fun _ => false
  pn := []
  xe := fun e s' => wpAny (model P w) (A.deeper (PySem.W.envX qual scope s.heap.objs.size f cd cl)) (leaving (PySem.W.envX qual scope s.heap.objs.size f cd cl) e) (fun _ s'' => CX outer H s E e s'') (fun e' s'' => CX outer H s E e' s'') s'

/-- what a lambda holds of its def's cells: cl by name, cs their objects; N, vals: the names that its body reads -/
structure LamIn (scope : Scope) (cl : List (Str × Addr)) (cs : List (Addr × Obj)) (N : List Str) (vals : List V) : Prop where
  kind : scope.kind = .function
  co : scope.isCoroutine = false
  gen : scope.isGenerator = false
  nocell : ∀ y ∈ scope.names, y.2 ≠ .cell
  nd : N.Nodup
  inj : ∀ x y c, cl.lookup x = some c → cl.lookup y = some c → x = y
  has : ∀ x, scope.names.lookup x = some .free → ∃ c, cl.lookup x = some c
  cell : ∀ x c, cl.lookup x = some c → ∃ o v, cs.lookup c = some o ∧ o.data = .cell v
  len : vals.length ≤ N.length
  val : ∀ (i : Nat) x v, N[i]? = some x → vals[i]? = some v → scope.names.lookup x = some .free ∧ ∃ c o u, cl.lookup x = some c ∧ cs.lookup c = some o ∧ o.data = .cell (some u) ∧ RelV v u

section
variable {P : Program} {w : World} {K : PySem.W.Frag} {mg : Str → Option Value} {base : Heap}
theorem inv_startL {CX : CXT} {N : List Str} {qual : Str} {scope : Scope} {f : Addr} {cd : Value} {cl : List (Str × Addr)} {cs : List (Addr × Obj)} {A : Around} {outer : List Env} {s : Shared} {h1 : Heap} {H : Hp} {E : XK} {vals : List V}
    (S : LamIn scope cl cs N vals) (hd : A.handled = none) (e0 : Env0 P w K mg base A outer s H) (hc : ∀ b o, cs.lookup b = some o → H b = some (fz o))
    (ns : h1.Ns s.heap.objs.size (fun _ => none)) (sb : Heap.SameBut s.heap.objs.size (s.heap.push { cls := .type "frame", data := .dict #[] }) h1) :
    Inv (cxL CX P w K mg base N qual scope f cd cl A outer s (cut H cs) E) [] (start N vals) (cut H cs) { s with heap := h1, toks := s.toks + 0 } := by
  have hk : ∀ b o, s.heap.get? b = some o → h1.get? b = some o := fun b o e => sb.extBut b o (Nat.ne_of_lt (Heap.lt_size e)) (Heap.get?_push_of_some _ e)
  have noA : ∀ b : Addr, b ∉ (cxL CX P w K mg base N qual scope f cd cl A outer s (cut H cs) E).ex := fun b z => absurd (show b ∈ ([] : List Addr) from z) (by simp)
  have hco : ∀ b o, cs.lookup b = some o → s.heap.get? b = some o := fun b o q => (e0.hok b _ (hc b o q)).1
  have hok1 : HOk P w (cut H cs) s.heap := hok_cut e0.hok hc
  have free : ∀ b o, base.get? b = some o → s.heap.get? b = some o ∧ cut H cs b = none := fun b o e => by
    obtain ⟨e1, e2⟩ := e0.bs b o e
    refine ⟨e1, ?_⟩
    cases q : cs.lookup b with
    | none => rw [cut_out q]; exact e2
    | some o2 => exact cut_in q
  have frf : ∀ b ∈ frs outer, cut H cs b = none := fun b hb => by
    cases q : cs.lookup b with
    | none => rw [cut_out q]; exact e0.frf b hb
    | some o2 => exact cut_in q
  refine ⟨⟨e0.mod, S.kind, rfl, rfl, Nat.le_refl _, fun y z c h1 h2 => S.inj y z c h1 h2, fun y hy => ?_, fun y c z _ => absurd (show false = true from z) (by decide), fun _ => hd, Around.frames_deeper e0.frames, .inr ⟨rfl, rfl⟩, fun b z => absurd z (noA b), free, e0.bsz, fun b _ _ => noA b, fun b z => absurd z (noA b), e0.funs, frf⟩,
    rfl, e0.bare, Un.kept hk, ⟨_, ns, fun i y v h1 h2 h3 => ?_⟩, fun y c h => ?_, hok1.fresh (Nat.le_refl _), fun y c h => ?_, fun p hp => absurd (show p ∈ ([] : List (Addr × Obj)) from hp) (by simp), hok1.kept hk, ?_⟩
  · have hy : scope.names.lookup y = some .cell ∨ scope.names.lookup y = some .free := hy
    rcases hy with hy | hy
    · exact absurd rfl (S.nocell _ (PySem.mem_of_lookup hy))
    · exact S.has y hy
  · have hi : i < vals.length := by
      unfold start at h2
      by_cases hi : i < vals.length
      · exact hi
      · rw [List.getElem?_append_right (by simpa using hi)] at h2
        rw [List.getElem?_replicate] at h2
        split at h2 <;> cases h2
    have ha : vals[i]? = some v := by
      unfold start at h2
      rw [List.getElem?_append_left (by simpa using hi), List.getElem?_map] at h2
      cases e : vals[i]? with
      | none => rw [e] at h2; cases h2
      | some a => rw [e] at h2; cases h2; rfl
    obtain ⟨k, c, o, u, e1, e2, e3, r⟩ := S.val i y v h1 ha
    exact ⟨u, r, .inr ⟨.inr k, c, e1, o, hk _ _ (hco c o e2), e3⟩⟩
  · obtain ⟨o, v, e2, e3⟩ := S.cell y c h
    exact ⟨v, o, hk _ _ (hco c o e2), e3⟩
  · obtain ⟨o, v, e2, e3⟩ := S.cell y c h
    exact cut_in e2
  · unfold start
    show _ = N.length
    rw [List.length_append, List.length_map, List.length_replicate]
    have := S.len
    omega

/-- a lambda without parameters, at the heap H: the function at f, its code at c', its cells -/
def spLam (f c' : Addr) (fo oc : Obj) (cs : List (Addr × Obj)) (body : VK → XK → Hp → Prop) : Sp := fun vs H Q E => vs = [] ∧ H f = some (fz fo) ∧ H c' = some (fz oc) ∧ (∀ b o, cs.lookup b = some o → H b = some (fz o)) ∧
  body (fun v H' => (∀ b o, cs.lookup b = some o → H' b = none) → Q v (ov H' cs)) (fun C x H' => (∀ b o, cs.lookup b = some o → H' b = none) → E C x (ov H' cs)) (cut H cs)
theorem lam_ok {CX : CXT} {k : Nat} {N : List Str} {vals : List V} {qual : Str} {params : Arguments} {ebody : Expr} {scope : Scope} {cl : List (Str × Addr)} {cs : List (Addr × Obj)} {pm ctv : Value} {f c' : Addr} {oc : Obj} {cvs : Array Value} {ct : Tok} {body : VK → XK → Hp → Prop}
    (S : LamIn scope cl cs N vals) (hoc : oc.data = .fields cvs) (hq : cvs[1]? = some (.str qual ct))
    (hCX : ∀ (outer : List Env) (H : Hp) (s : Shared) (E : XK) (e : Value) (s' : Shared), (∀ b o, cs.lookup b = some o → H b = some (fz o) ∧ s.heap.get? b = some o ∧ b ∉ frs outer) → CX outer (cut H cs) s (fun C x H' => (∀ b o, cs.lookup b = some o → H' b = none) → E C x (ov H' cs)) e s' → CX outer H s E e s')
    (hbind : bindArgs (PySem.W.kla_fn "<lambda>" qual params ebody scope cl pm (.ref c') ctv) ⟨[], []⟩ = pure [])
    (hbody : ∀ (A : Around) (outer : List Env) (s : Shared) (H : Hp) (Q : VK) (E : XK), Room k (A.deeper (PySem.W.envX qual scope s.heap.objs.size f (.ref c') cl)) → body Q E H →
      ∃ t, PE (cxL CX P w K mg base N qual scope f (.ref c') cl A outer s H E) ebody t ∧ t (start N vals) H Q) :
    FnOk P w K mg base CX (k + 1) f (PySem.W.kla_fn "<lambda>" qual params ebody scope cl pm (.ref c') ctv) [] (spLam f c' (PySem.W.kla_obj "<lambda>" qual params ebody scope cl pm c' ctv) oc cs body) := by
  refine ⟨fun vs H Q E h => by rw [h.1]; rfl, fun A outer s H args us vs Q E hr e0 hb r hsp => ?_⟩
  obtain ⟨rfl, hf, hc', hcs, hbd⟩ := hsp
  cases r
  have KX : K.In s.heap := e0.mod.kin.keeps fun b o e => (e0.bs b o e).1
  have lim : s.heap.NoLimit := e0.mod.nolimit.keeps fun b o e => (e0.bs b o e).1
  have ho := (e0.hok f _ hf).1
  have hco := (e0.hok c' _ hc').1
  have hcell : ∀ b o, cs.lookup b = some o → H b = some (fz o) ∧ s.heap.get? b = some o ∧ b ∉ frs outer := fun b o q =>
    ⟨hcs b o q, (e0.hok b _ (hcs b o q)).1, fun z => by have := hcs b o q; rw [e0.frf b z] at this; cases this⟩
  refine PySem.W.kla_callFunE hr.depth ho rfl S.co S.gen rfl ⟨c', oc, cvs, ct, rfl, hco, hoc, hq⟩ (hb _ _ _ _ ?_)
  refine wpAny_newFunctionEnv S.nocell (fun x hx => absurd (show x ∈ ([] : List (Str × Value)) from hx) (by simp)) (fun h1 ns sb => ⟨lim.fresh _ sb, ?_⟩) S.kind
  have ns : h1.Ns s.heap.objs.size (fun _ => none) := ns
  obtain ⟨t, ht, hq⟩ := hbody A outer s (cut H cs) _ _ (hr.deeper _) hbd
  have I := inv_startL (CX := CX) (qual := qual) (f := f) (cd := .ref c') (E := fun C x H' => (∀ b o, cs.lookup b = some o → H' b = none) → E C x (ov H' cs)) S hr.hd e0 hcs ns sb
  refine PySem.W.kla_codeExpr (wpAny_mono (ht [] _ (start N vals) (cut H cs) _ I hq) (fun u s' hs => ?_) fun e s' hs => ?_)
  · obtain ⟨v, H', J, rv, q⟩ := hs
    have kept := cells_kept J.base hcell
    exact ⟨v, ov H' cs, J.os, J.bare, un_cut_fwd J.base hcell, hok_ov J.hok kept, rv, q fun b o z => (kept b o z).2⟩
  · exact wpAny_mono hs (fun _ s'' z => hCX _ _ _ _ _ _ hcell z) fun e' s'' z => hCX _ _ _ _ _ _ hcell z
end

def BMain (mg : Str → Option Value) (h : Heap) : Prop := ∃ bm ob, mg "__builtins__" = some (.ref bm) ∧ bm ≠ builtinsNs ∧ h.get? bm = some ob ∧ ob.cls = .type "module" ∧ ob.dict = some builtinsNs ∧ ob.data = .plain
section
variable {X : Cx}
def tLam (Pt : Addr) (mk : Addr → Value → Value → Obj) (qual : Str) (pos : Pos) : TE := fun _ H Q => ∃ ps, H Pt = some (.tbl ps) ∧ PySem.TriplesOk ps.toList ∧ codeAmong pos ps.toList = none ∧
  ∀ (f c' : Addr) (oc : Obj) (cvs : Array Value) (ct : Tok) (pm ctv : Value), H f = none → H c' = none → f ≠ c' → f ≠ Pt → c' ≠ Pt → oc.data = .fields cvs → cvs[1]? = some (.str qual ct) →
    Q (.ref f) (upd (upd (upd H Pt (.tbl (ps ++ #[rawInt pos.line, rawInt pos.col, .ref c']))) c' (fz oc)) f (fz (mk c' pm ctv)))
theorem pe_lam {params : Arguments} {body : Expr} {scope : Scope} {pos : Pos} {c Pt : Addr} (hdef : defaultsOf params X.env = ([], [])) (hfree : ∀ y ∈ scope.names, y.2 = .free → X.env.kindOf y.1 = some .cell ∨ X.env.kindOf y.1 = some .free)
    (hcode : X.env.code = .ref c) (C : PySem.W.CodeHd X.base c Pt) (BM : BMain X.mg X.base) :
    PE X (.Lambda params body scope pos) (tLam Pt (fun c' pm ctv => PySem.W.kla_obj "<lambda>" (X.env.qual ++ "<lambda>") params body scope (cloFrom X.env.cells scope.names []) pm c' ctv) (X.env.qual ++ "<lambda>") pos) := by
  intro pins s σ H Q I h
  obtain ⟨ps, hP, htr, hnf, hq⟩ := h
  have hPo : s.heap.get? Pt = some (PySem.W.tabObj ps) := I.hok Pt _ hP
  obtain ⟨bm, ob, b1, b2, b3, b4, b5, b6⟩ := BM
  have hbP : bm ≠ Pt := fun q => by
    have e := I.bk _ _ b3
    rw [q, hPo] at e; cases e; cases b4
  have hgs : s.heap.Ns mainGlobals X.mg := I.mod.glob.keeps I.bk
  have hbG : bm ≠ mainGlobals := fun q => by
    obtain ⟨o, es, ep, e, hd, _⟩ := I.mod.glob
    rw [q, e] at b3; cases b3; rw [hd] at b6; cases b6
  have hgP : mainGlobals ≠ Pt := fun q => by
    obtain ⟨o, es, ep, e, hd, _⟩ := hgs
    rw [q, hPo] at e; cases e; cases hd
  have hcl : closureFor scope X.env = pure (cloFrom X.env.cells scope.names []) := closure_ok fun y hy e => I.ok.has _ (hfree y hy e)
  refine PySem.W.kla_eval hdef (PySem.W.kla_makeFunction (mg := X.mg) hcl I.ok.glob hgs hcode (C.keeps I.bk) hPo htr hnf hgP ⟨bm, ob, b1, b2, hbG, hbP, I.bk _ _ b3, b4, b5, b6⟩ fun c' ctv h' tk hx hge hlt hrec htb => ?_)
  obtain ⟨c2, oc, cvs, ct, e2, hoc, hd, hv⟩ := hrec
  cases e2
  have szP : Pt < s.heap.objs.size := Heap.lt_size hPo
  have sz : s.heap.objs.size < h'.objs.size := Nat.lt_of_le_of_lt hge hlt
  have nf : H h'.objs.size = none := I.hok.fresh (Nat.le_of_lt sz)
  have nc : H c' = none := I.hok.fresh hge
  have fc : h'.objs.size ≠ c' := Nat.ne_of_gt hlt
  have fP : h'.objs.size ≠ Pt := Nat.ne_of_gt (Nat.lt_trans szP sz)
  have cP : c' ≠ Pt := Nat.ne_of_gt (Nat.lt_of_lt_of_le szP hge)
  have kq := hq h'.objs.size c' oc cvs ct ((X.mg "__name__").getD .none) ctv nf nc fc fP cP hd hv
  refine ⟨.ref h'.objs.size, _, ?_, rfl, kq⟩
  have keep : ∀ b o, b ≠ Pt → s.heap.get? b = some o → (h'.push (PySem.W.kla_obj "<lambda>" (X.env.qual ++ "<lambda>") params body scope (cloFrom X.env.cells scope.names []) ((X.mg "__name__").getD .none) c' ctv)).get? b = some o :=
    fun b o hb e => Heap.get?_push_of_some _ (hx b o hb e)
  have ne1 : ∀ b o, s.heap.get? b = some o → b ≠ c' ∧ b ≠ h'.objs.size := fun b o e =>
    have l := Heap.lt_size e
    ⟨Nat.ne_of_lt (Nat.lt_of_lt_of_le l hge), Nat.ne_of_lt (Nat.lt_trans l sz)⟩
  have at_ : ∀ b o, s.heap.get? b = some o → b ≠ Pt → (upd (upd (upd H Pt (.tbl (ps ++ #[rawInt pos.line, rawInt pos.col, .ref c']))) c' (fz oc)) h'.objs.size (fz (PySem.W.kla_obj "<lambda>" (X.env.qual ++ "<lambda>") params body scope (cloFrom X.env.cells scope.names []) ((X.mg "__name__").getD .none) c' ctv))) b = H b := fun b o e hb => by
    rw [upd_ne (ne1 b o e).2, upd_ne (ne1 b o e).1, upd_ne hb]
  have tr : ∀ b u, H b = some u → b ≠ Pt → (upd (upd (upd H Pt (.tbl (ps ++ #[rawInt pos.line, rawInt pos.col, .ref c']))) c' (fz oc)) h'.objs.size (fz (PySem.W.kla_obj "<lambda>" (X.env.qual ++ "<lambda>") params body scope (cloFrom X.env.cells scope.names []) ((X.mg "__name__").getD .none) c' ctv))) b = some u := fun b u e hb => by
    obtain ⟨o, ho⟩ := (I.hok b u e).there
    rw [at_ b o ho hb]
    exact e
  refine I.un (h' := h'.push _) (t' := tk) ⟨fun b o e n _ _ => ?_, fun b o e n _ _ => ?_, fun b o e n _ => ?_, fun b o e _ => ?_, fun b xs e => ?_, fun b o u e => ?_, fun b qs e => ?_⟩ fun b u e => ?_
  · exact keep b o (fun z => by rw [z, hP] at n; cases n) e
  · exact ⟨o.slots, keep b o (fun z => by rw [z, hP] at n; cases n) e⟩
  · rw [at_ b o e (fun z => by rw [z, hP] at n; cases n)]
    exact n
  · by_cases hb : b = Pt
    · exact ⟨_, by rw [hb]; exact Heap.get?_push_of_some _ htb⟩
    · exact ⟨o, keep b o hb e⟩
  · exact tr b _ e fun z => by rw [z, hP] at e; cases e
  · exact tr b _ e fun z => by rw [z, hP] at e; cases e
  · by_cases hb : b = Pt
    · subst hb
      rw [hP] at e
      cases e
      exact ⟨#[rawInt pos.line, rawInt pos.col, .ref c'], by rw [upd_ne (Ne.symm fP), upd_ne (Ne.symm cP), upd_same]⟩
    · exact ⟨#[], by rw [tr b _ e hb]; simp⟩
  · by_cases h1 : b = h'.objs.size
    · subst h1
      rw [upd_same] at e
      cases e
      exact ⟨Heap.get?_push_size _ rfl, _, Heap.get?_push_size _ rfl⟩
    · rw [upd_ne h1] at e
      by_cases h2 : b = c'
      · subst h2
        rw [upd_same] at e
        cases e
        exact ⟨Heap.get?_push_of_some _ hoc, _, Heap.get?_push_of_some _ hoc⟩
      · rw [upd_ne h2] at e
        by_cases h3 : b = Pt
        · subst h3
          rw [upd_same] at e
          cases e
          exact Heap.get?_push_of_some _ htb
        · rw [upd_ne h3] at e
          refine (I.hok b u e).stay (fun c v hc q => keep c v ?_ q) (fun c q => tr c _ q fun z => by rw [z, hP] at q; cases q) fun c xs q => tr c _ q fun z => by rw [z, hP] at q; cases q
          rcases hc with rfl | hc
          · exact h3
          · rintro rfl
            rw [hP] at hc
            cases hc
end

section
variable {X : Cx} {CX : CXT} {k : Nat} {f : Addr} {fd : FuncData} {sp : Sp} {E : XK} {x : Str} {p pos : Pos}
def tCallV0 (i : Nat) (f : Addr) (sp : Sp) (E : XK) : TE := fun σ H Q => σ[i]? = some (some (.ref f)) ∧ (∃ oc od fd sl, H f = some (fz ⟨oc, od, .func fd, sl⟩)) ∧ sp [] H Q E
theorem pe_callV0 (i : Nat) (F : FnOk X.prog X.w X.K X.mg X.base CX k f fd [] sp) (hr : Room k X.A) (hb : Binds X.K fd [] []) (hx : Passes CX X E)
    (hN : X.N[i]? = some x := by rfl) (hv : Vis X.env.scope x := by first | exact Or.inl rfl | exact Or.inr (Or.inl rfl)) (hdb : (x == ("__debug__" : Str)) = false := by decide) (hcd : (x == ("__classdict__" : Str)) = false := by decide) :
    PE X (.Call (.Name x p) [] [] pos) (tCallV0 i f sp E) := by
  intro pins s σ H Q I h
  obtain ⟨hσ, ⟨oc, od, fd', sl, hf⟩, h⟩ := h
  refine wpAny_Call_Name_kw (thn (pe_var hN hv hdb hcd pins s σ H (fun v H1 => v = .ref f ∧ H1 = H) I ⟨_, hσ, rfl, rfl⟩) fun u s0 ⟨v, H0, I0, r0, ev, eH⟩ => ?_)
  subst ev eH
  obtain rfl : u = Value.ref f := r0
  exact PySem.W.callWith_F0 ⟨oc, od, fd', sl, (I0.hok f _ hf).1⟩ (run_fn (us := []) F hr hb .nil hx I0 .nil h)
end

section
variable {X : Cx} {CX : CXT} {k k' : Nat} {ps : List Str} {sp : Sp} {x : Str} {p pos : Pos} {e : Expr} {es : List Expr} {t : TA}
def tCallT (ns : List (Str × Nat)) (cells : List (Str × Addr)) (sp : Sp) (t : TA) : TE := fun σ H Q => t σ H fun vs H1 => ∀ cs : List (Addr × Obj),
  (∀ b o, cs.lookup b = some o → H1 b = none ∧ ∃ x, cells.lookup x = some b) → (∀ x c, cells.lookup x = some c → ∃ o v, cs.lookup c = some o ∧ o.data = .cell v) →
  (∀ x i v, (x, i) ∈ ns → σ[i]? = some (some v) → ∃ c o u, cells.lookup x = some c ∧ cs.lookup c = some o ∧ o.data = .cell (some u) ∧ RelV v u) →
  sp vs (ov H1 cs) (fun v H' => Q v (cut H' cs)) E0
theorem lookup_map_mem {α : Type} {g : Addr → α} : ∀ {l : List Addr} {b : Addr}, b ∈ l → (l.map fun a => (a, g a)).lookup b = some (g b)
  | a :: l, b, h => by
    rw [List.map_cons, List.lookup_cons]
    cases hb : b == a with
    | true => rw [eq_of_beq hb]
    | false =>
      rcases List.mem_cons.mp h with e | h
      · rw [e] at hb; simp at hb
      · exact lookup_map_mem h
theorem lookup_map_some {α : Type} {g : Addr → α} : ∀ {l : List Addr} {b : Addr} {o : α}, (l.map fun a => (a, g a)).lookup b = some o → b ∈ l ∧ o = g b
  | [], b, o, h => by cases h
  | a :: l, b, o, h => by
    rw [List.map_cons, List.lookup_cons] at h
    cases hb : b == a with
    | true =>
      rw [hb] at h
      have e := eq_of_beq hb
      subst e
      exact ⟨List.mem_cons_self .., (Option.some.inj h).symm⟩
    | false =>
      rw [hb] at h
      obtain ⟨h1, h2⟩ := lookup_map_some h
      exact ⟨List.mem_cons_of_mem _ h1, h2⟩
theorem pe_callT (ns : List (Str × Nat)) (D : Dep X.prog X.w X.K X.mg X.base CX k x ps sp) (hr : Room k' X.A) (hCX : ∀ outer H s e s', CX outer H s E0 e s' → False) (ha : PA X (e :: es) t)
    (hns : ∀ q ∈ ns, X.N[q.2]? = some q.1 ∧ X.env.kindOf q.1 = some .cell) (hnd : ∀ q ∈ X.env.cells, X.env.cells.lookup q.1 = some q.2) (hfn : ∀ x, X.fn x = true := by intro _; rfl)
    (hg : Gl X x := by rfl) (hle : k ≤ k' := by decide) (hdb : (x == ("__debug__" : Str)) = false := by decide)
    (he : starEach (e :: es) X.env = (false, eval e X.env) :: starEach es X.env := by rfl) (hpl : (backTo pos (starEach es X.env)).any (·.1) = false := by rfl) :
    PE X (.Call (.Name x p) (e :: es) [] pos) (tCallT ns X.env.cells sp t) := by
  obtain ⟨f, fd, hm, hk, hb, F⟩ := D.ex
  intro pins s σ H Q I h
  refine wpAny_Call_Name_kw (ld_glob I hg hm ?_ hdb)
  refine PySem.W.callWith_K (h₀ := X.base) I.ok.mod.kin hk (thn (ha pos pins s σ H _ I h) fun us s1 ⟨vs, H1, I1, r, q⟩ => ⟨I1.kIn, ?_⟩) he hpl
  -- the cells as they stand
  let cs : List (Addr × Obj) := (X.env.cells.map (·.2)).map fun a => (a, (s1.heap.get? a).getD { cls := .none, data := .plain })
  have hcs : ∀ b o, cs.lookup b = some o → (∃ x, X.env.cells.lookup x = some b) ∧ s1.heap.get? b = some o := fun b o z => by
    obtain ⟨m, e⟩ := lookup_map_some (g := fun a => (s1.heap.get? a).getD { cls := .none, data := .plain }) z
    obtain ⟨y, hy, rfl⟩ := List.mem_map.mp m
    obtain ⟨v, o2, ho2, _⟩ := I1.cell _ _ (hnd y hy)
    rw [ho2] at e
    have e : o = o2 := e
    subst e
    exact ⟨⟨y.1, hnd y hy⟩, ho2⟩
  have hat : ∀ y c, X.env.cells.lookup y = some c → ∃ o, s1.heap.get? c = some o ∧ cs.lookup c = some o := fun y c e => by
    obtain ⟨v, o2, ho2, hd⟩ := I1.cell y c e
    refine ⟨o2, ho2, ?_⟩
    have m : c ∈ X.env.cells.map (·.2) := List.mem_map.mpr ⟨(y, c), PySem.mem_of_lookup e, rfl⟩
    have := lookup_map_mem (g := fun a => (s1.heap.get? a).getD ({ cls := .none, data := .plain } : Obj)) m
    rw [ho2] at this
    exact this
  have c1 : ∀ b o, cs.lookup b = some o → s1.heap.get? b = some o ∧ H1 b = none ∧ b ∉ frs X.stack := fun b o z => by
    obtain ⟨⟨y, hy⟩, e⟩ := hcs b o z
    refine ⟨e, I1.freeC y b hy, fun m => ?_⟩
    rcases List.mem_cons.mp (I1.stkSub b m) with z2 | z2
    · exact I1.cne y b hy z2
    · obtain ⟨_, o3, ho3, _⟩ := I1.ok.funs.mem z2
      exact absurd (Nat.lt_of_lt_of_le (Heap.lt_size ho3) (I1.ok.cab y b (hfn y) hy)) (Nat.lt_irrefl _)
  have hsp := q cs (fun b o z => ⟨(c1 b o z).2.1, (hcs b o z).1⟩) (fun y c e => by
      obtain ⟨o, ho, hl⟩ := hat y c e
      obtain ⟨v, o2, ho2, hd⟩ := I1.cell y c e
      rw [ho] at ho2
      cases ho2
      exact ⟨o, v, hl, hd⟩) (fun y i v hm hσ => by
      obtain ⟨hN, hk⟩ := hns _ hm
      obtain ⟨m, _, hl⟩ := I1.loc
      obtain ⟨u, ru, lk⟩ := hl i y v hN hσ (.inr (.inl hk))
      rcases lk with ⟨k2, _⟩ | ⟨_, c, e, o, ho, hd⟩
      · rw [hk] at k2; cases k2
      · obtain ⟨o2, ho2, hl2⟩ := hat y c e
        rw [ho] at ho2
        cases ho2
        exact ⟨c, o, u, e, hl2, hd, ru⟩)
  have e0 := I1.env0
  have e1 : Env0 X.prog X.w X.K X.mg X.base X.A X.stack s1 (ov H1 cs) := by
    refine ⟨e0.frames, e0.mod, fun b o e => ?_, e0.bsz, e0.funs, fun b hb => ?_, hok_ov e0.hok fun b o z => ⟨(c1 b o z).1, (c1 b o z).2.1⟩, e0.bare⟩
    · obtain ⟨e2, e3⟩ := e0.bs b o e
      refine ⟨e2, ?_⟩
      cases z : cs.lookup b with
      | none => rw [ov_out z]; exact e3
      | some o2 =>
        exfalso
        obtain ⟨⟨y, hy⟩, _⟩ := hcs b o2 z
        have l1 := I1.ok.cab y b (hfn y) hy
        exact absurd (Nat.lt_of_lt_of_le (Heap.lt_size e) (Nat.le_trans I1.ok.bsz l1)) (Nat.lt_irrefl _)
    · cases z : cs.lookup b with
      | none => rw [ov_out z]; exact e0.frf b hb
      | some o2 => exact absurd hb (c1 b o2 z).2.2
  have r2 : Vals (vs ++ []) (us ++ []) := r.append .nil
  rw [List.append_nil, List.append_nil] at r2
  have hl : (us ++ []).length = ps.length := by rw [List.append_nil, ← r2.length]; exact F.len _ _ _ _ hsp
  have hb2 := hb s1 us I1.kIn hl
  rw [List.append_nil] at hb2
  refine wpAny_call (codeAny_mono (F.run X.A X.stack s1 (ov H1 cs) ⟨us, []⟩ us vs _ E0 (hr.mono hle) e1 hb2 r2 hsp) fun rr s' hq => ?_)
  cases rr with
  | error e => exact (hCX _ _ _ _ _ hq).elim
  | ok fl =>
    cases fl with
    | next => exact False.elim hq
    | brk => exact False.elim hq
    | cont => exact False.elim hq
    | ret u =>
      obtain ⟨v, H', os, bare, un, hok, rv, qq⟩ := hq
      have un2 := un_ov_back un hok c1
      have hok2 : HOk X.prog X.w (cut H' cs) s'.heap := hok_cut hok fun b o z => un.frzs b o (.own 0) (ov_in z)
      exact I1.after ⟨v, cut H' cs, os, bare, un2, hok2, rv, qq⟩
end
end L2

set_option Elab.async false
set_option linter.all false
set_option maxRecDepth 100000
set_option maxHeartbeats 2000000
namespace L2
open PySem PySem.Spec PyProof.Rows
/-- over a range with a step -/
theorem lc_rangeC {lo c : Int} {n : Nat} {g : TG} {tt : TT} {te : TE} {vs : List Nat} {σ : St} {H1 : Hp} {D : Addr} {Qd : Hp → Prop} (Pv : Nat → Hp → Prop) (h0 : Pv 0 (upd H1 D (.lst [])))
    (hs : ∀ i H, i < n → Pv i H → g (.int (lo + (i : Nat) * c)) (wipe σ vs) H fun σ2 H2 => wipe σ2 vs = wipe σ vs ∧ tt σ2 H2 fun b H3 =>
      if b = true then te σ2 H3 fun y H4 => ∃ acc, H4 D = some (.lst acc) ∧ acc.length < sizeLine ∧ Pv (i + 1) (upd H4 D (.lst (acc ++ [y]))) else Pv (i + 1) H3) (hd : ∀ H, Pv n H → Qd H) :
    ∃ W : Nat → Nat → Hp → Prop, (∃ m, W 0 m (upd H1 D (.lst []))) ∧ ∀ i m H, W i m H →
      ((Itc lo c n).stop i H ∧ Qd H) ∨ ((Itc lo c n).go i H ∧ ∃ Nx : Hp → Prop, (∀ H', Nx H' → ∃ m', m' < m ∧ W (i + 1) m' H') ∧ ∀ x H', (Itc lo c n).yld i H x H' → g x (wipe σ vs) H' fun σ2 H2 => wipe σ2 vs = wipe σ vs ∧ tt σ2 H2 fun b H3 =>
        if b = true then te σ2 H3 fun y H4 => ∃ acc, H4 D = some (.lst acc) ∧ acc.length < sizeLine ∧ Nx (upd H4 D (.lst (acc ++ [y]))) else Nx H3) := by
  refine ⟨fun i m H => m = n - i ∧ i ≤ n ∧ Pv i H, ⟨n, by simp, Nat.zero_le _, h0⟩, ?_⟩
  rintro i m H ⟨rfl, hi, p⟩
  by_cases hlt : i < n
  · refine .inr ⟨hlt, Pv (i + 1), fun H' p' => ⟨n - (i + 1), by omega, rfl, hlt, p'⟩, fun x H' y => ?_⟩
    obtain ⟨e, y⟩ := y
    subst e y
    exact hs i _ hlt p
  · have e : i = n := by omega
    subst e
    exact .inl ⟨Nat.le_refl _, hd H p⟩
def freeC (sc scope : Scope) : Bool := scope.names.all fun y => match y.2 with
  | .free => (match sc.names.lookup y.1 with | some .cell => true | some .free => true | _ => false)
  | _ => true
theorem free_by {sc scope : Scope} (h : freeC sc scope = true) : ∀ y ∈ scope.names, y.2 = .free → sc.names.lookup y.1 = some .cell ∨ sc.names.lookup y.1 = some .free := fun y hy e => by
  unfold freeC at h
  have q := List.all_eq_true.mp h y hy
  simp only [e] at q
  split at q <;> first | exact .inl (by assumption) | exact .inr (by assumption) | cases q
theorem yesIt {σ : St} {H : Hp} {A B : Hp → Prop} (h : A H) : tYes σ H fun b H3 => if b = true then A H3 else B H3 := by
  show (if true = true then A H else B H)
  rw [if_pos rfl]
  exact h
theorem Same.upd {H : Hp} {a : Addr} {o : HO} (h : H a = none) : Same H (upd H a o) := fun b u e => by rw [upd_ne (ne_of_none e h)]; exact e
theorem Same.upd' {H H' : Hp} {a : Addr} {o : HO} (s : Same H H') (h : H a = none) : Same H (L2.upd H' a o) := fun b u e => by rw [upd_ne (ne_of_none e h)]; exact s b u e
/-- the cells told and forgotten -/
theorem Same.cut {H H1 : Hp} {cs : List (Addr × Obj)} (s : Same (ov H cs) H1) (hc : ∀ b o, cs.lookup b = some o → H b = none) : Same H (L2.cut H1 cs) := fun b u e => by
  cases q : cs.lookup b with
  | some o => rw [hc b o q] at e; cases e
  | none => rw [cut_out q]; exact s b u (by rw [ov_out q]; exact e)
theorem Same.ov {H1 H' : Hp} {cs : List (Addr × Obj)} (s : Same (L2.cut H1 cs) H') (hc : ∀ b o, cs.lookup b = some o → H1 b = some (fz o)) : Same H1 (L2.ov H' cs) := fun b u e => by
  cases q : cs.lookup b with
  | some o => rw [ov_in q]; rw [hc b o q] at e; exact e
  | none => rw [ov_out q]; exact s b u (by rw [cut_out q]; exact e)
theorem Same.ov_self {H : Hp} {cs : List (Addr × Obj)} (hc : ∀ b o, cs.lookup b = some o → H b = none) : Same H (L2.ov H cs) := fun b u e => by
  cases q : cs.lookup b with
  | some o => rw [hc b o q] at e; cases e
  | none => rw [ov_out q]; exact e
end L2

set_option Elab.async false
set_option linter.all false
set_option maxRecDepth 100000
set_option maxHeartbeats 2000000
namespace L2
open PySem PySem.Spec PyProof.Rows
open PySem.W (WData Codec OpenSpec Well WellAll ReadsW ReadsAllW)
mutual
theorem Dw.same {K : PySem.W.Frag} {H H' : Hp} (hs : ∀ {a xs}, SqL K H a xs → SqL K H' a xs) (ht : ∀ {a xs}, SqT K H a xs → SqT K H' a xs) : ∀ (d : WData) (v : V), Dw K H v d → Dw K H' v d
  | .none, _, x => by cases x; exact .non
  | .bool b, _, x => by cases x; exact .bl b
  | .int i, _, x => by cases x; exact .int i
  | .str s, _, x => by cases x; exact .str s
  | .bytes b, _, x => by
    cases x with
    | byt b => exact .byt b
  | .list ds, _, x => by
    cases x with
    | lst h1 h2 => exact .lst (hs h1) (DwAll.same hs ht ds _ h2)
  | .tuple ds, _, x => by
    cases x with
    | tup h1 h2 => exact .tup (ht h1) (DwAll.same hs ht ds _ h2)
  | .float _, _, x => by cases x
  | .dict _, _, x => by cases x
  | .bytearray _, _, x => by cases x
  | .set _, _, x => by cases x
  | .frozenset _, _, x => by cases x
  | .obj _ _, _, x => by cases x
theorem DwAll.same {K : PySem.W.Frag} {H H' : Hp} (hs : ∀ {a xs}, SqL K H a xs → SqL K H' a xs) (ht : ∀ {a xs}, SqT K H a xs → SqT K H' a xs) : ∀ (ds : List WData) (vs : List V), DwAll K H vs ds → DwAll K H' vs ds
  | [], _, x => by cases x; exact .nil
  | d :: ds, _, x => by
    cases x with
    | cons h1 h2 => exact .cons (Dw.same hs ht d _ h1) (DwAll.same hs ht ds _ h2)
end
theorem Same.seqT {K : PySem.W.Frag} {H H' : Hp} {a : Addr} {xs : List V} (e : Same H H') (h : SqT K H a xs) : SqT K H' a xs := by
  rcases h with (h | ⟨o, h⟩) | h
  · exact .inl (.inl (e _ _ h))
  · exact .inl (.inr ⟨o, e _ _ h⟩)
  · exact .inr h
/-- what a body that makes a function asks of the module -/
structure MkOk (mg : Str → Option Value) (base : Heap) (c Pt : Addr) : Prop where
  hd : PySem.W.CodeHd base c Pt
  bm : BMain mg base
theorem spec_callL {P : Program} {w : World} {K : PySem.W.Frag} {mg mb : Str → Option Value} {CX : CXT} {k : Nat} {fa c Pt : Addr} {fd : FuncData} {ps : List Str} {sp : Sp} {s₁ : Shared} {vals : List Value} {ds : List WData} {R : PySem.W.WRecords} {cl : Str → Option Addr} {d0 : WData}
    (KX : K.In s₁.heap) (hns : s₁.heap.Ns mainGlobals mg) (hb : s₁.heap.Ns builtinsNs mb) (hbb : ∀ x : Str, x ≠ "__name__" → mb x = bootBuiltins x) (hlim : s₁.heap.NoLimit) (hg : s₁.gens = #[])
    (hCH : PySem.W.CodeHd s₁.heap c Pt) (hPt : s₁.heap.get? Pt = some (PySem.W.tabObj #[])) (hBM : BMain mg s₁.heap) (hKP : K.lookup Pt = none)
    (hwl : WellAll w.params s₁.heap vals ds) (hpl : plWs ds = true) (hwt : ∀ d ∈ ds, d.weight ≤ 1048576) (hr : Room k callerA)
    (F : ∀ base : Heap, K.In base → base.Ns mainGlobals mg → MkOk mg base c Pt → FnOk P w K mg base CX k fa fd ps sp) (hbind : ∀ (s : Shared) (us : List Value), us.length = ps.length → BindsTo s fd ⟨us, []⟩ (ps.zip us)) (hlen : ds.length = ps.length)
    (hsp : ∀ (H : Hp) (xs : List V), H Pt = some (.tbl #[]) → DwAll K H xs ds → sp xs H (fun v H' => Dw K H' v d0) fun _ _ _ => False)
    (hCX : ∀ H e s', CX [] H s₁ (fun _ _ _ => False) e s' → False) :
    codeAny (model P w) callerA (.call (.ref fa) ⟨vals, []⟩) (fun r s' => ∃ u as, r = .ok (.ret u) ∧ ReadsW R cl s'.heap u d0 as ∧ OldK s₁.heap s'.heap ∧ s'.os = s₁.os ∧ AllBare s'.gens) s₁ := by
  obtain ⟨A, ho, ar⟩ := area_all ds vals hwl hpl hwt
  have hO0 : OnlyF (argH K s₁.heap A) := argH_only ar
  have hok0 : HOk P w (argH K s₁.heap A) s₁.heap := argH_ok ar
  have hS0 := dw_all KX ar ds vals hwl hpl ho
  have hV := vals_toV ho
  have hK0 : ∀ b u, argH K s₁.heap A b = some u → K.lookup b = none := fun b u q => (argH_is ar q).1
  have isSeq : ∀ b u, argH K s₁.heap A b = some u → ∃ T vs, s₁.heap.get? b = some { cls := .type T, data := .seq vs } := fun b u q => by
    obtain ⟨_, vs, _, _, ⟨e2, _⟩ | ⟨e2, _⟩⟩ := argH_is ar q
    · exact ⟨_, _, e2⟩
    · exact ⟨_, _, e2⟩
  have nPt : argH K s₁.heap A Pt = none := by
    cases q : argH K s₁.heap A Pt with
    | none => rfl
    | some u =>
      obtain ⟨T, vs, e⟩ := isSeq Pt u q
      rw [hPt] at e
      cases e
  generalize argH K s₁.heap A = H0 at hO0 hok0 hS0 hK0 isSeq nPt
  generalize hH : upd H0 Pt (.tbl #[]) = H
  have hHPt : H Pt = some (.tbl #[]) := by rw [← hH]; exact upd_same
  have hHne : ∀ b, b ≠ Pt → H b = H0 b := fun b hb => by rw [← hH]; exact upd_ne hb
  have s0 : Same H0 H := by rw [← hH]; exact Same.upd nPt
  have hS : DwAll K H (vals.map toV) ds := DwAll.same (fun q => s0.seq q) (fun q => s0.seqT q) ds _ hS0
  have hok : HOk P w H s₁.heap := by
    intro b u e
    by_cases hb : b = Pt
    · subst hb
      rw [hHPt] at e
      cases e
      exact hPt
    · rw [hHne b hb] at e
      exact (hok0 b u e).stay (fun _ _ _ z => z) (fun d z => s0 d _ z) fun d xs z => s0 d _ z
  have noSeq : ∀ {b : Addr} {o : Obj}, s₁.heap.get? b = some o → (∀ vs n, o.data ≠ .seq vs n) → b ≠ Pt → H b = none := fun {b o} e hd hb => by
    rw [hHne b hb]
    cases q : H0 b with
    | none => rfl
    | some u =>
      obtain ⟨T, vs, e2⟩ := isSeq b u q
      rw [e] at e2
      cases e2
      exact absurd rfl (hd _ _)
  have base_of : ∀ {b : Addr} {o : Obj}, s₁.heap.get? b = some o → H b = none → (hidT s₁.heap H).get? b = some o := fun e n => hidT_get e n
  have nsK : ∀ {b : Addr} {m : Str → Option Value}, s₁.heap.Ns b m → (hidT s₁.heap H).Ns b m := fun {b m} ⟨o, es, ep, e, d, r⟩ => ⟨o, es, ep, base_of e (noSeq e (fun vs n q => by rw [d] at q; cases q) (fun q => by rw [q, hPt] at e; cases e; cases d)), d, r⟩
  have nK : ∀ b o, K.lookup b = some o → H b = none := fun b o e => by
    have hb : b ≠ Pt := fun q => by rw [q, hKP] at e; cases e
    rw [hHne b hb]
    cases q : H0 b with
    | none => rfl
    | some u =>
      rw [hK0 b u q] at e
      cases e
  have hKb : K.In (hidT s₁.heap H) := fun b o e => base_of (KX b o e) (nK b o e)
  have hM : Mod K mg (hidT s₁.heap H) := ⟨hKb, nsK hns, ⟨mb, nsK hb, hbb⟩, let ⟨mc, h1, h2⟩ := hlim; ⟨mc, nsK h1, h2⟩⟩
  have hMk : MkOk mg (hidT s₁.heap H) c Pt := by
    refine ⟨?_, ?_⟩
    · obtain ⟨o, vs, file, tf, flags, tg, inF, text, tt, e1, e2, e3, r⟩ := hCH
      exact ⟨o, vs, file, tf, flags, tg, inF, text, tt, base_of e1 (noSeq e1 (fun vs n q => by rw [e3] at q; cases q) (fun q => by rw [q, hPt] at e1; cases e1; cases e2)), e2, e3, r⟩
    · obtain ⟨bm, ob, h1, h2, h3, h4, h5, h6⟩ := hBM
      exact ⟨bm, ob, h1, h2, base_of h3 (noSeq h3 (fun vs n q => by rw [h6] at q; cases q) (fun q => by rw [q, hPt] at h3; cases h3; cases h4)), h4, h5, h6⟩
  have e0 : Env0 P w K mg (hidT s₁.heap H) callerA [] s₁ H := ⟨rfl, hM, fun b o e => of_hidT e, Nat.le_of_eq (hidT_size _ _), trivial, fun b hb => absurd (show b ∈ ([] : List Addr) from hb) (by simp), hok, .of_eq hg⟩
  have hl : vals.length = ps.length := by rw [wellAll_len hwl]; exact hlen
  refine codeAny_mono ((F _ hKb (nsK hns) hMk).run callerA [] s₁ H ⟨vals, []⟩ vals (vals.map toV) _ _ hr e0 (hbind s₁ vals hl) hV (hsp H _ hHPt hS)) fun r s' x => ?_
  cases r with
  | error e => exact (hCX H e s' x).elim
  | ok fl =>
    cases fl with
    | next => exact False.elim x
    | brk => exact False.elim x
    | cont => exact False.elim x
    | ret u =>
      obtain ⟨v, H', os, bare, un, hok', r', q⟩ := x
      have kept : ∀ b o, b ≠ Pt → s₁.heap.get? b = some o → s'.heap.get? b = some o := fun b o hb e => by
        cases q2 : H b with
        | none => exact un.keep b o e q2 (by intro z; exact absurd (show b ∈ ([] : List Addr) from z) (by simp)) (by simp)
        | some u2 =>
          have q3 := q2
          rw [hHne b hb] at q3
          rcases hO0 b with z | ⟨ob, u3, z⟩
          · rw [q3] at z
            cases z
          · have z1 : H b = some (.frz ob u3) := s0 b _ z
            have z2 := un.frzs b ob _ z1
            obtain ⟨e1, _⟩ := hok b _ z1
            obtain ⟨e2, _⟩ := hok' b _ z2
            rw [e] at e1
            cases e1
            exact e2
      have KX' : K.In s'.heap := fun b o e => kept b o (fun q => by rw [q, hKP] at e; cases e) (KX b o e)
      obtain ⟨as, hrd⟩ := Dw.reads (R := R) (cl := cl) hok' KX' d0 v u q r'
      obtain ⟨more, hmore⟩ := un.tbls Pt #[] hHPt
      have hPt' : s'.heap.get? Pt = some { cls := .none, data := .fields (#[] ++ more) } := hok' Pt _ hmore
      have htab : isCodeTable s₁.heap Pt := (hCH.tab hPt).isCodeTable
      refine ⟨u, as, rfl, hrd, ⟨fun b o e => ?_, fun b o e => ?_⟩, os, bare⟩
      · by_cases hb : b = Pt
        · subst hb
          rw [hPt] at e
          cases e
          exact .inr (.inl ⟨htab, rfl, #[], more, rfl, hPt'⟩)
        · exact .inl (kept b o hb e)
      · by_cases hb : b = Pt
        · exact ⟨_, by rw [hb]; exact hPt'⟩
        · exact ⟨o, kept b o hb e⟩
/-- the row, its def in the program's own list of defs -/
theorem walk_specL {r : OpenSpec} {k : Nat} {q : Program} {loose : List Str} {XP : (Str → Option Value) → Heap → Prop} {YP : World → Heap → Prop} {d : DefRec} {K : Params → PySem.W.Frag} {CX : CXT} {ps : List Str} {sp : Addr → PySem.W.Frag → Sp}
    (hwell : r.wellSaid = true) (hdf : d.params.defaults = []) (hlen : r.args.length = ps.length) (hr : Room k callerA) (hd : d ∈ recsOf q) (hK : ∀ w : World, PySem.W.noTabs (K w.params) = true)
    (hY : ∀ (w : World) (h : Heap), YP w h → (K w.params).In h)
    (F : ∀ (w : World) (mg : Str → Option Value) (fa c Pt : Addr) (h : Heap), YP w h → (K w.params).In h → h.Ns mainGlobals mg → mg d.name = some (.ref fa) → (∃ o fd, h.get? fa = some o ∧ o.data = .func fd ∧ fd.code = .ref c) →
      ∃ fd : FuncData, (∀ (s : Shared) (us : List Value), us.length = ps.length → BindsTo s fd ⟨us, []⟩ (ps.zip us)) ∧
        ∀ base : Heap, (K w.params).In base → base.Ns mainGlobals mg → MkOk mg base c Pt → FnOk r.prog w (K w.params) mg base CX k fa fd ps (sp Pt (K w.params)))
    (hsp : ∀ (K : PySem.W.Frag) (Pt : Addr) (H : Hp) (xs : List V) (a : Codec.denoteAll r.args), H Pt = some (.tbl #[]) → Codec.withinAll r.args a = true → Codec.app r.args r.asked a = true → DwAll K H xs (Codec.encAll r.args a) →
      sp Pt K xs H (fun v H' => Dw K H' v (r.ret.enc (Codec.app r.args r.f a))) fun _ _ _ => False)
    (hCX : ∀ (H : Hp) (s : Shared) (e : Value) (s' : Shared), CX [] H s (fun _ _ _ => False) e s' → False) :
    PySem.W.WalkOS q loose XP YP r d [] (fun f vs => PySem.call f vs) := by
  intro w s_0 s₁ mg mb G Y fa o pm cd doc dV kV ho hd' hcd hD hmg hg args vals as hpre hlay hrd hwl hlo
  obtain ⟨a, e1, e2⟩ := PySem.W.os_pre_some hpre
  obtain ⟨e3, hwi⟩ := Codec.encAll_of_decAll r.args args a e1
  subst e3
  have KX := hY w _ Y
  obtain ⟨a', o', fd', c, Pt, t1, t2, t3, t4, t5, t6⟩ := G.T.tab d hd
  have ea : a' = fa := by rw [hmg] at t1; injection t1 with t1; injection t1 with t1; exact t1.symm
  subst ea
  have hPt : s₁.heap.get? Pt = some (PySem.W.tabObj #[]) := t6.2
  have hKP : (K w.params).lookup Pt = none := by
    cases q : (K w.params).lookup Pt with
    | none => rfl
    | some ob =>
      have e := KX Pt ob q
      rw [hPt] at e
      have h2 := List.all_eq_true.mp (hK w) (Pt, ob) (PySem.W.mem_of_lookupK q)
      cases e
      exact absurd (show false = true from h2) Bool.false_ne_true
  obtain ⟨fd, hb, hF⟩ := F w mg a' c Pt _ Y KX G.T.g hmg ⟨o', fd', t2, t3, t4⟩
  refine PySem.W.enter_call (codeAny_mono (spec_callL (R := []) (cl := classAt s_0.heap) (d0 := r.ret.enc (Codec.app r.args r.f a)) KX G.T.g G.T.b G.T.builtins G.T.nolimit hg (PySem.W.CodeHd.of t5 t6) hPt G.T.bmain hKP hwl (pl_encAll _ _) (layable_weight hlay) hr hF hb (by rw [encAll_len]; exact hlen)
    (fun H xs hO hS => hsp (K w.params) Pt H xs a hO hwi e2 hS) fun H e s' => hCX H s₁ e s') fun r' s' hq => ?_)
  obtain ⟨u, as', rfl, h1, h2, h3, h4⟩ := hq
  exact ⟨.inl ⟨u, _, as', rfl, fun _ => rfl, h1, (OpenSpec.post_iff hwell hwi _ _).mpr rfl, fun z => Bool.noConfusion (show false = true from z)⟩, h2, h3, h4⟩
end L2

set_option Elab.async false
set_option linter.all false
set_option maxRecDepth 100000
set_option maxHeartbeats 4000000
namespace L2
open PySem PySem.Spec PyProof.Rows
/-- the order of two ints -/
def lexI (p q : Int × Int) : Bool := decide (p.1 < q.1) || (!decide (q.1 < p.1) && decide (p.2 < q.2))
def shN : Nat → Bool := fun _ => false
def kDec (h : Heap) (v : Value) : Int × Int := match PyProof.Rows.G.tupKeyC h shN v with
  | some [.inl i, .inl j] => (i, j)
  | _ => (0, 0)
def aOf : Value → Addr
  | .ref a => a
  | _ => 0
theorem lexI_eq (a b c d : Int) : lexLt itemOrd [.inl a, .inl b] [.inl c, .inl d] = lexI (a, b) (c, d) := by
  rw [lex_cons, lex_cons]
  show (decide (a < c) || (!decide (c < a) && (decide (b < d) || (!decide (d < b) && false)))) = _
  unfold lexI
  simp
theorem lexI_irrefl (p : Int × Int) : lexI p p = false := by simp [lexI]
theorem lexI_total {p q : Int × Int} (h1 : lexI p q = false) (h2 : lexI q p = false) : p = q := by
  obtain ⟨a, b⟩ := p
  obtain ⟨c, d⟩ := q
  simp only [lexI, Bool.or_eq_false_iff, decide_eq_false_iff_not, Bool.and_eq_false_iff, Bool.not_eq_false', decide_eq_true_eq] at h1 h2
  have e1 : a = c := by omega
  have e2 : b = d := by omega
  rw [e1, e2]
/-- what a sort by such keys gives -/
theorem sortK_out {h : Heap} {keys : List Value} {as : List Addr} {kz : List (Int × Int)} (lk : keys.length = as.length) (lz : kz.length = as.length)
    (hk : ∀ (j : Nat) T k, keys[j]? = some T → kz[j]? = some k → PyProof.Rows.G.tupKeyC h shN T = some [.inl k.1, .inl k.2]) {xs : Array Keyed}
    (hp : xs.Perm (keys.toArray.zip (as.map Value.ref).toArray)) (hs : SortedToK (PyProof.Rows.G.tupKindC h shN) xs xs.size) (hst : Stable (PyProof.Rows.G.tupKindC h shN) xs (keys.toArray.zip (as.map Value.ref).toArray)) :
    ∃ ps : List ((Int × Int) × Addr), ps.Perm (kz.zip as) ∧ (xs.map (·.2)).toList = ps.map (fun p => Value.ref p.2) ∧ ps.Pairwise (fun p q => lexI q.1 p.1 = false) ∧ ∀ c, ps.filter (fun p => p.1 == c) = (kz.zip as).filter (fun p => p.1 == c) := by
  let F : Keyed → (Int × Int) × Addr := fun p => (kDec h p.1, aOf p.2)
  have ez : (keys.toArray.zip (as.map Value.ref).toArray).toList = keys.zip (as.map Value.ref) := by rw [ksk_zip]
  -- each pair of the start
  have hz : ∀ p ∈ keys.zip (as.map Value.ref), ∃ i j a, PyProof.Rows.G.tupKeyC h shN p.1 = some [.inl i, .inl j] ∧ p.2 = .ref a := fun p hp' => by
    obtain ⟨n, hn⟩ := List.getElem?_of_mem hp'
    rw [List.getElem?_zip_eq_some] at hn
    obtain ⟨h1, h2⟩ := hn
    have hlt := (List.getElem?_eq_some_iff.mp h1).1
    have h3 := hk n p.1 _ h1 (List.getElem?_eq_getElem (by omega))
    rw [List.getElem?_map] at h2
    obtain ⟨a, ha, e⟩ := Option.map_eq_some_iff.mp h2
    exact ⟨_, _, a, h3, e.symm⟩
  have hl : xs.toList.Perm (keys.zip (as.map Value.ref)) := by rw [← ez]; exact Array.perm_iff_toList_perm.mp hp
  have hx : ∀ p ∈ xs.toList, ∃ i j a, PyProof.Rows.G.tupKeyC h shN p.1 = some [.inl i, .inl j] ∧ p.2 = .ref a := fun p q => hz p (hl.mem_iff.mp q)
  have e2 : (keys.zip (as.map Value.ref)).map F = kz.zip as := by
    refine List.ext_getElem? fun n => ?_
    rw [List.getElem?_map]
    by_cases hn : n < as.length
    · have g1 := List.getElem?_eq_getElem (l := keys) (i := n) (by omega)
      have g2 := List.getElem?_eq_getElem (l := kz) (i := n) (by omega)
      have g3 := List.getElem?_eq_getElem (l := as) (i := n) hn
      have z1 : (keys.zip (as.map Value.ref))[n]? = some (keys[n]'(by omega), Value.ref as[n]) := List.getElem?_zip_eq_some.mpr ⟨g1, by rw [List.getElem?_map, g3]; rfl⟩
      have z2 : (kz.zip as)[n]? = some (kz[n]'(by omega), as[n]) := List.getElem?_zip_eq_some.mpr ⟨g2, g3⟩
      rw [z1, z2]
      have k1 := hk n _ _ g1 g2
      show some ((kDec h _, _) : (Int × Int) × Addr) = _
      unfold kDec
      rw [k1]
      rfl
    · rw [List.getElem?_eq_none (by rw [List.length_zip, List.length_map]; omega), List.getElem?_eq_none (by rw [List.length_zip]; omega)]
      rfl
  refine ⟨xs.toList.map F, ?_, ?_, ?_, fun c => ?_⟩
  · rw [← e2]
    exact hl.map _
  · rw [Array.toList_map, List.map_map]
    refine List.map_congr_left fun p hp' => ?_
    obtain ⟨i, j, a, _, e⟩ := hx p hp'
    show p.2 = Value.ref (aOf p.2)
    rw [e]
    rfl
  · rw [List.pairwise_iff_getElem]
    intro i j hi hj hij
    have hi' : i < xs.size := by simpa using hi
    have hj' : j < xs.size := by simpa using hj
    have q := hs i j (Nat.le_of_lt hij) hj'
    obtain ⟨a1, b1, _, k1, _⟩ := hx xs[i] (by simp)
    obtain ⟨a2, b2, _, k2, _⟩ := hx xs[j] (by simp)
    have K1 : KK (PyProof.Rows.G.tupKindC h shN) xs i = [.inl a1, .inl b1] := by
      unfold KK
      rw [Array.getElem?_eq_getElem hi']
      show (PyProof.Rows.G.tupKeyC h shN xs[i].1).getD [] = _
      rw [k1]
      rfl
    have K2 : KK (PyProof.Rows.G.tupKindC h shN) xs j = [.inl a2, .inl b2] := by
      unfold KK
      rw [Array.getElem?_eq_getElem hj']
      show (PyProof.Rows.G.tupKeyC h shN xs[j].1).getD [] = _
      rw [k2]
      rfl
    rw [K1, K2] at q
    have q' : lexLt itemOrd [.inl a2, .inl b2] [.inl a1, .inl b1] = false := q
    rw [lexI_eq] at q'
    rw [List.getElem_map, List.getElem_map]
    show lexI (kDec h xs.toList[j].1) (kDec h xs.toList[i].1) = false
    unfold kDec
    rw [Array.getElem_toList, Array.getElem_toList, k1, k2]
    exact q'
  · have key : ∀ l : List Keyed, (∀ p ∈ l, ∃ i j a, PyProof.Rows.G.tupKeyC h shN p.1 = some [.inl i, .inl j] ∧ p.2 = .ref a) → (l.map F).filter (fun p => p.1 == c) = (rowOf (PyProof.Rows.G.tupKindC h shN) [.inl c.1, .inl c.2] l).map F := fun l hl' => by
      rw [List.filter_map]
      unfold rowOf
      congr 1
      refine List.filter_congr fun p hp' => ?_
      obtain ⟨i, j, a, k1, _⟩ := hl' p hp'
      show (kDec h p.1 == c) = sameKey (PyProof.Rows.G.tupKindC h shN) _ p
      unfold sameKey kDec
      rw [show (PyProof.Rows.G.tupKindC h shN).keyOf p.1 = some [.inl i, .inl j] from k1, k1]
      show ((i, j) == c) = (!lexLt itemOrd [.inl i, .inl j] [.inl c.1, .inl c.2] && !lexLt itemOrd [.inl c.1, .inl c.2] [.inl i, .inl j])
      rw [lexI_eq, lexI_eq]
      by_cases e : (i, j) = c
      · subst e
        rw [lexI_irrefl]
        simp
      · rw [show ((i, j) == c) = false by simpa using e]
        cases x1 : lexI (i, j) (c.1, c.2)
        · cases x2 : lexI (c.1, c.2) (i, j)
          · exact absurd (lexI_total x1 x2) e
          · rfl
        · rfl
    rw [key _ hx, ← e2, key _ hz]
    have t := hst [.inl c.1, .inl c.2]
    rw [ez] at t
    rw [t]
/-- .. where the key belongs to the item -/
theorem sortK_addr {as : List Addr} {κ : Addr → Int × Int} {ps : List ((Int × Int) × Addr)} (hp : ps.Perm ((as.map κ).zip as)) (hs : ps.Pairwise (fun p q => lexI q.1 p.1 = false)) (hf : ∀ c, ps.filter (fun p => p.1 == c) = ((as.map κ).zip as).filter (fun p => p.1 == c)) :
    (ps.map (·.2)).Perm as ∧ (ps.map (·.2)).Pairwise (fun a b => lexI (κ b) (κ a) = false) ∧ ∀ c, (ps.map (·.2)).filter (fun a => κ a == c) = as.filter (fun a => κ a == c) := by
  have ez : ∀ l : List Addr, (l.map κ).zip l = l.map fun a => (κ a, a) := fun l => by
    induction l with
    | nil => rfl
    | cons a l ih => rw [List.map_cons, List.zip_cons_cons, ih, List.map_cons]
  rw [ez] at hp hf
  have hk : ∀ p ∈ ps, p.1 = κ p.2 := fun p q => by
    obtain ⟨a, _, rfl⟩ := List.mem_map.mp (hp.mem_iff.mp q)
    rfl
  have snd : ∀ l : List Addr, (l.map fun a => (κ a, a)).map (·.2) = l := fun l => by
    rw [List.map_map]
    exact List.map_id l
  refine ⟨?_, ?_, fun c => ?_⟩
  · have z := hp.map (·.2)
    rw [snd] at z
    exact z
  · rw [List.pairwise_map]
    refine List.Pairwise.imp_of_mem (fun ha hb q => ?_) hs
    rw [← hk _ ha, ← hk _ hb]
    exact q
  · have z := congrArg (List.map (·.2)) (hf c)
    have w1 : (ps.filter (fun p => p.1 == c)).map (·.2) = (ps.map (·.2)).filter (fun a => κ a == c) := by
      rw [List.filter_map]
      congr 1
      refine List.filter_congr fun p hp' => ?_
      show (p.1 == c) = (κ p.2 == c)
      rw [hk p hp']
    have w2 : ((as.map fun a => (κ a, a)).filter (fun p => p.1 == c)).map (·.2) = as.filter (fun a => κ a == c) := by
      rw [List.filter_map, List.map_map]
      show List.map id _ = _
      rw [List.map_id]
      rfl
    rw [w1, w2] at z
    exact z

/-- the object as it stands -/
def exactly (a : Addr) (o : Obj) : HO := .ext fun h => h.get? a = some o
theorem exactly_ok {P : Program} {w : World} {H : Hp} {h : Heap} {a : Addr} {o : Obj} (e : h.get? a = some o) : ObjOk P w H h a (exactly a o) := ⟨e, ⟨o, e⟩, fun h1 h2 e1 k => k o e1⟩
theorem vals_refs : ∀ (as : List Addr), Vals (as.map V.ref) (as.map Value.ref)
  | [] => .nil
  | a :: as => .cons rfl (vals_refs as)
theorem vals_refs_eq : ∀ {as : List Addr} {its : List Value}, Vals (as.map V.ref) its → its = as.map Value.ref
  | [], _, .nil => rfl
  | a :: as, _, .cons r h => by
    have e : _ = Value.ref a := r
    rw [e, vals_refs_eq h]
    rfl
theorem vals_int2 {i j : Int} {its : List Value} (h : Vals [.int i, .int j] its) : ∃ t u, its = [.int i t, .int j u] := by
  cases h with
  | cons r1 h =>
    cases h with
    | cons r2 h =>
      cases h
      obtain ⟨t, rfl⟩ := r1
      obtain ⟨u, rfl⟩ := r2
      exact ⟨t, u, rfl⟩
theorem tup_key {h : Heap} {T : Addr} {i j : Int} {t u : Tok} (x : IsTup h T ([.int i t, .int j u] : List Value).toArray) : PyProof.Rows.G.tupKeyC h shN (.ref T) = some [.inl i, .inl j] ∧ PyProof.Rows.TupOf h shN (.ref T) (.int i t) := by
  obtain ⟨o, ho, hc, n, hd⟩ := x
  refine ⟨?_, T, o, _, n, rfl, ho, hc, hd, rfl, fun _ => ⟨i, t, rfl⟩, fun z => by cases z⟩
  unfold PyProof.Rows.G.tupKeyC PyProof.Rows.G.isTupObj PyProof.Rows.tupKey
  simp [ho, hc, hd, PyProof.Rows.tupItems, shN]
theorem tups_of {h : Heap} : ∀ {Ts : List Addr}, (∀ T ∈ Ts, ∃ f, PyProof.Rows.TupOf h shN (.ref T) f) → ∃ fs, PyProof.Rows.TupsOf h shN (Ts.map Value.ref) fs ∧ fs.length = Ts.length
  | [], _ => ⟨[], .nil, rfl⟩
  | T :: Ts, k => by
    obtain ⟨f, hf⟩ := k T (by simp)
    obtain ⟨fs, h1, h2⟩ := tups_of (Ts := Ts) fun T' hT => k T' (by simp [hT])
    exact ⟨f :: fs, .cons hf h1, by rw [List.length_cons, h2, List.length_cons]⟩
section
variable {X : Cx} {pins : List (Addr × Obj)} {σ : St} {H : Hp} {s : Shared} {A : Around} {E : Value → Shared → Prop} {D kS : Addr} {e1 : Nat} {as Ts : List Addr} {κ : Addr → Int × Int} {P : PySem.Fin → Shared → Prop}
theorem sortK_tail {st : SortSt} {ks : List V} {bs : List Addr} (I : Inv X pins σ H s) (hD : H D = some (exactly D (seqObj "list" #[] e1))) (hS : H kS = some (.lst ks)) (nDS : kS ≠ D) (lk : ks.length ≤ 1000) (lb : bs.length ≤ 1000)
    (hout : ((arrOf st).map (·.2)).toList = bs.map Value.ref) (hfl : failedOf st = none)
    (h : ∀ s', Inv X pins σ (upd (upd H kS (.lst [])) D (.lst (bs.map V.ref))) s' → P (.done (.ret .none)) s') : wpAny (model X.prog X.w) A (ksk_tail D false e1 (.ref kS) st) P E s := by
  obtain ⟨_, its, n, rv, ek⟩ := I.hok kS _ hS
  obtain ⟨eD, _⟩ := I.hok D _ hD
  have ek : s.heap.get? kS = some (seqObj "list" its.toArray n) := ek
  have eD : s.heap.get? D = some (seqObj "list" #[] e1) := eD
  have li : its.length = ks.length := rv.length.symm
  have ea : (arrOf st).map (·.2) = (bs.map Value.ref).toArray := by rw [← hout]
  have ek1 := get?_update_seq ek fun _ => (#[] : Array Value)
  have I1 : Inv X pins σ (upd H kS (.lst [])) { s with heap := s.heap.update kS (Obj.mapSeq fun _ => (#[] : Array Value)) } :=
    I.write (x := kS) (e := kS) (t' := s.toks) (by rw [hS]; trivial) (.inl rfl) (fun b u hb q => (Heap.get?_update_other _ _ (Ne.symm hb)).trans q) ⟨_, ek1⟩ ⟨Nat.zero_le _, [], _, .nil, ek1⟩
  have eD1 : (s.heap.update kS (Obj.mapSeq fun _ => (#[] : Array Value))).get? D = some (seqObj "list" #[] e1) := (Heap.get?_update_other _ _ nDS).trans eD
  have hD1 : upd H kS (.lst []) D = some (exactly D (seqObj "list" #[] e1)) := by rw [upd_ne (Ne.symm nDS)]; exact hD
  obtain ⟨c2, eD2⟩ : ∃ c2, ((s.heap.update kS (Obj.mapSeq fun _ => (#[] : Array Value))).update D (Obj.mapSeq fun _ => (arrOf st).map (·.2))).get? D = some (seqObj "list" (bs.map Value.ref).toArray c2) :=
    ⟨_, (get?_update_seq eD1 fun _ => (arrOf st).map (·.2)).trans (congrArg some (congrArg (fun q => seqObj "list" q _) ea))⟩
  unfold ksk_tail
  try dsimp only
  refine wpAny_bind (listUpdate_at ek rfl ?_ (by rw [List.size_toArray, li]; exact Nat.le_of_lt (small1000 lk)) (Nat.zero_le _))
  refine wpAny_bind (wpAny_letGo ?_)
  refine wpAny_bind (seqEpoch_at eD1 rfl ?_)
  simp only [Bool.false_eq_true, if_false]
  refine wpAny_bind (listUpdate_at eD1 rfl ?_ (Nat.zero_le _) (by rw [ea, List.size_toArray, List.length_map]; exact Nat.le_succ_of_le (Nat.le_of_lt (small1000 lb))))
  rw [hfl]
  simp only [bne_self_eq_false, Bool.false_eq_true, if_false]
  refine wpAny_pure (h _ ?_)
  refine I1.write (x := D) (e := D) (t' := s.toks) (by rw [hD1]; trivial) (.inl rfl) (fun b u hb q => (Heap.get?_update_other _ _ (Ne.symm hb)).trans q) ⟨_, eD2⟩ ⟨by rw [List.length_map]; exact Nat.le_of_lt (small1000 lb), bs.map Value.ref, c2, vals_refs bs, eD2⟩
theorem sortK_end (I : Inv X pins σ H s) (hD : H D = some (exactly D (seqObj "list" #[] e1))) (hS : H kS = some (.lst (Ts.map V.ref))) (nDS : kS ≠ D) (lT : Ts.length = as.length) (l1 : as.length ≤ 1000)
    (hT : ∀ (j : Nat) T a, Ts[j]? = some T → as[j]? = some a → H T = some (.tup [.int (κ a).1, .int (κ a).2]))
    (h : ∀ (s' : Shared) (bs : List Addr), Inv X pins σ (upd (upd H kS (.lst [])) D (.lst (bs.map V.ref))) s' → bs.Perm as → bs.Pairwise (fun a b => lexI (κ b) (κ a) = false) → (∀ c, bs.filter (fun a => κ a == c) = as.filter (fun a => κ a == c)) → P (.done (.ret .none)) s') :
    wpAny (model X.prog X.w) A (ksk_end D false (as.map Value.ref).toArray e1 (.ref kS) (Ts.map Value.ref).toArray) P E s := by
  have hkey : ∀ (j : Nat) T a, Ts[j]? = some T → as[j]? = some a → PyProof.Rows.G.tupKeyC s.heap shN (.ref T) = some [.inl (κ a).1, .inl (κ a).2] ∧ ∃ f, PyProof.Rows.TupOf s.heap shN (.ref T) f := fun j T a q1 q2 => by
    obtain ⟨_, its, rv, x⟩ := I.hok T _ (hT j T a q1 q2)
    obtain ⟨t, u, rfl⟩ := vals_int2 rv
    exact ⟨(tup_key x).1, _, (tup_key x).2⟩
  have hk : ∀ (j : Nat) T k, (Ts.map Value.ref)[j]? = some T → (as.map κ)[j]? = some k → PyProof.Rows.G.tupKeyC s.heap shN T = some [.inl k.1, .inl k.2] := fun j T k q1 q2 => by
    rw [List.getElem?_map] at q1 q2
    obtain ⟨T', z1, rfl⟩ := Option.map_eq_some_iff.mp q1
    obtain ⟨a, z2, rfl⟩ := Option.map_eq_some_iff.mp q2
    exact (hkey j T' a z1 z2).1
  have fin : ∀ (st : SortSt), (arrOf st).Perm ((Ts.map Value.ref).toArray.zip (as.map Value.ref).toArray) → SortedToK (PyProof.Rows.G.tupKindC s.heap shN) (arrOf st) (arrOf st).size → Stable (PyProof.Rows.G.tupKindC s.heap shN) (arrOf st) ((Ts.map Value.ref).toArray.zip (as.map Value.ref).toArray) →
      failedOf st = none → wpAny (model X.prog X.w) A (ksk_tail D false e1 (.ref kS) st) P E s := fun st a1 a2 a3 a4 => by
    obtain ⟨ps, p1, p2, p3, p4⟩ := sortK_out (kz := as.map κ) (by rw [List.length_map]; exact lT) (by rw [List.length_map]) hk a1 a2 a3
    obtain ⟨q1, q2, q3⟩ := sortK_addr p1 p3 p4
    refine sortK_tail (bs := ps.map (·.2)) I hD hS nDS (by rw [List.length_map]; omega) (by rw [q1.length_eq]; exact l1) (by rw [p2, List.map_map]; rfl) a4 fun s' I' => h s' _ I' q1 q2 q3
  have hzs : ((Ts.map Value.ref).toArray.zip (as.map Value.ref).toArray).size = as.length := by
    rw [Array.size_zip, List.size_toArray, List.size_toArray, List.length_map, List.length_map, lT, Nat.min_self]
  unfold ksk_end
  try dsimp only
  simp only [Bool.false_eq_true, if_false]
  by_cases h2 : (as.map Value.ref).toArray.size < 2
  · rw [if_pos h2, if_pos h2]
    refine wpAny_bind (wpAny_pure ?_)
    rw [StateT.run_pure]
    refine wpAny_bind (wpAny_pure ?_)
    try dsimp only
    refine fin (SortSt.mk' general' ((Ts.map Value.ref).toArray.zip (as.map Value.ref).toArray) #[] 7 none) (Array.Perm.refl _) ?_ (Stable.refl _) rfl
    intro i j hij hj
    have hj2 : j < ((Ts.map Value.ref).toArray.zip (as.map Value.ref).toArray).size := hj
    rw [hzs] at hj2
    rw [List.size_toArray, List.length_map] at h2
    have : i = j := by omega
    subst this
    exact KeyOrd.kle_refl _
  · rw [if_neg h2, if_neg h2]
    rw [List.size_toArray, List.length_map] at h2
    obtain ⟨fs, f1, f2⟩ := tups_of (h := s.heap) (Ts := Ts) fun T hT' => by
      obtain ⟨j, hj⟩ := List.getElem?_of_mem hT'
      have hlt := (List.getElem?_eq_some_iff.mp hj).1
      exact (hkey j T _ hj (List.getElem?_eq_getElem (by omega))).2
    refine wpAny_bind (PyProof.Rows.tup_kind (by omega) f1 ?_)
    refine wpAny_bind (wpAny_mono (PyProof.Rows.G.wpS_sortRunsSt (κ := PyProof.Rows.G.tupKindC s.heap shN) (kd := tuples' true) (a₀ := (Ts.map Value.ref).toArray.zip (as.map Value.ref).toArray)
      (st := SortSt.mk' (tuples' true) ((Ts.map Value.ref).toArray.zip (as.map Value.ref).toArray) #[] 7 none)
      (Q := fun _ st' => (arrOf st').Perm ((Ts.map Value.ref).toArray.zip (as.map Value.ref).toArray) ∧ failedOf st' = none ∧ SortedToK (PyProof.Rows.G.tupKindC s.heap shN) (arrOf st') (arrOf st').size ∧ Stable (PyProof.Rows.G.tupKindC s.heap shN) (arrOf st') ((Ts.map Value.ref).toArray.zip (as.map Value.ref).toArray))
      (PyProof.Rows.G.tupC_ltAt true (PyProof.Rows.G.KeepsTups.refl _)) (fun p hp => ?_) ⟨Array.Perm.refl _, rfl, rfl⟩ rfl (Stable.refl _) (by rw [hzs]; omega)
      fun st' a1 a2 a3 a4 => ⟨a1, a2, by rw [a1.size_eq]; exact a3, a4⟩) ?_ fun _ _ e => e)
    · rw [ksk_zip] at hp
      obtain ⟨n, hn⟩ := List.getElem?_of_mem hp
      rw [List.getElem?_zip_eq_some] at hn
      have hlt := (List.getElem?_eq_some_iff.mp hn.1).1
      rw [List.length_map] at hlt
      exact ⟨_, hk n p.1 _ hn.1 (List.getElem?_eq_getElem (by rw [List.length_map]; omega))⟩
    · rintro ⟨⟨⟩, st'⟩ s' ⟨rfl, hp, hf, hs, hst⟩
      try dsimp only
      exact fin st' hp hs hst hf
end
end L2

set_option Elab.async false
set_option linter.all false
set_option maxRecDepth 100000
set_option maxHeartbeats 4000000
namespace L2
open PySem PySem.Spec PyProof.Rows
section
variable {X : Cx} {pins : List (Addr × Obj)} {σ : St} {H H0 : Hp} {s : Shared} {E : Value → Shared → Prop} {D kS f : Addr} {e1 k : Nat} {as : List Addr} {κ : Addr → Int × Int} {P : PySem.Fin → Shared → Prop} {fd : FuncData} {ps : List Str} {sp : Sp}
/-- what the key gives of each of them -/
def KeyOk (sp : Sp) (H0 : Hp) (as : List Addr) (κ : Addr → Int × Int) : Prop := ∀ a ∈ as, ∀ (H' : Hp) (Q' : VK), Same H0 H' → (∀ T, H' T = none → Q' (.ref T) (upd H' T (.tup [.int (κ a).1, .int (κ a).2]))) → sp [.ref a] H' Q' E0
theorem sortK_rest (F : FnOk X.prog X.w X.K X.mg X.base CX0 k f fd ps sp) (hr : Room k X.A.in1.in1) (hb : Binds X.K fd ps []) (I : Inv X pins σ H s) (s0 : Same H0 H) (fD : H0 D = none) (fS : H0 kS = none)
    (hD : H D = some (exactly D (seqObj "list" #[] e1))) (hS : H kS = some (.lst [])) (nDS : kS ≠ D) (l1 : as.length ≤ 1000) (hK : KeyOk sp H0 as κ)
    (h : ∀ (s' : Shared) (bs : List Addr) (H' : Hp), Inv X pins σ H' s' → Same H0 H' → H' D = some (.lst (bs.map V.ref)) → bs.Perm as → bs.Pairwise (fun a b => lexI (κ b) (κ a) = false) → (∀ c, bs.filter (fun a => κ a == c) = as.filter (fun a => κ a == c)) → P (.done (.ret .none)) s') :
    wpAny (model X.prog X.w) X.A.in1.in1 (ksk_rest D (.ref f) false (as.map Value.ref).toArray e1 (.ref kS)) P E s := by
  unfold ksk_rest
  refine wpAny_bind (wpAny_rule ?_)
  first
    | rw [List.forIn_toArray]
    | (rw [← Array.forIn_toList]; simp only [List.toList_toArray])
    | rw [← Array.forIn_toList]
  refine wpAny_bind (ksk_fold (fun i s' => ∃ (H' : Hp) (Ts : List Addr), Inv X pins σ H' s' ∧ Same H0 H' ∧ H' D = some (exactly D (seqObj "list" #[] e1)) ∧ H' kS = some (.lst (Ts.map V.ref)) ∧ Ts.length = i ∧
      ∀ (j : Nat) T a, Ts[j]? = some T → as[j]? = some a → H' T = some (.tup [.int (κ a).1, .int (κ a).2])) (as.map Value.ref) 0 s ⟨H, [], I, s0, hD, hS, rfl, fun j T a z => by simp at z⟩ ?step ?done)
  case step =>
    rintro j x s1 hx ⟨H1, Ts, I1, s1', hD1, hS1, lT, hT⟩
    rw [List.getElem?_map] at hx
    obtain ⟨a, ha, rfl⟩ := Option.map_eq_some_iff.mp hx
    have hj : j < as.length := (List.getElem?_eq_some_iff.mp ha).1
    have I1' : Inv { X with A := X.A.in1.in1, calm := false, xe := fun _ _ => False, pn := X.pn } pins σ H1 s1 := I1.swap X.A.in1.in1 (fun z => by cases z) I1.ok.frames (fun p hp => hp)
    have run := run_fn (X := { X with A := X.A.in1.in1, calm := false, xe := fun _ _ => False, pn := X.pn }) (E := E0) (dvs := []) (vs := [.ref a]) (us := [.ref a]) (Q := fun v H2 => ∃ T, v = .ref T ∧ H1 T = none ∧ H2 = upd H1 T (.tup [.int (κ a).1, .int (κ a).2]))
      F hr hb .nil pass0 I1' (.cons rfl .nil) (hK a (List.mem_of_getElem? ha) H1 _ s1' fun T hT' => ⟨T, rfl, hT', rfl⟩)
    refine wpAny_bind (wpAny_attempt (wpAny_mono run (fun v s2 he => ?_) fun _ _ hF => hF.elim))
    obtain ⟨v', H2, I2', rv, T, rfl, nT, rfl⟩ := he
    obtain rfl : v = Value.ref T := rv
    have I2 : Inv X pins σ (upd H1 T (.tup [.int (κ a).1, .int (κ a).2])) s2 := by
      have := I2'.swap (c := X.calm) (xe' := X.xe) (pn' := X.pn) (pins' := pins) X.A (fun z => I1.ok.hd z) I1.ok.frames (fun p hp => hp)
      exact this
    have nTS : kS ≠ T := ne_of_none hS1 nT
    have nTD : D ≠ T := ne_of_none hD1 nT
    have hS2 : upd H1 T (.tup [.int (κ a).1, .int (κ a).2]) kS = some (.lst (Ts.map V.ref)) := by rw [upd_ne nTS]; exact hS1
    have hD2 : upd H1 T (.tup [.int (κ a).1, .int (κ a).2]) D = some (exactly D (seqObj "list" #[] e1)) := by rw [upd_ne nTD]; exact hD1
    obtain ⟨_, its, n, rk, ek⟩ := I2.hok kS _ hS2
    have ei := vals_refs_eq rk
    subst ei
    have ek : s2.heap.get? kS = some (seqObj "list" (Ts.map Value.ref).toArray n) := ek
    obtain ⟨c2, ek2⟩ : ∃ c2, (s2.heap.update kS (Obj.mapSeq (·.push (Value.ref T)))).get? kS = some (seqObj "list" ((Ts ++ [T]).map Value.ref).toArray c2) :=
      ⟨_, (get?_update_seq ek (·.push (Value.ref T))).trans (congrArg some (congrArg (fun q => seqObj "list" q _) (by simp)))⟩
    try dsimp only
    refine wpAny_bind (listUpdate_at ek rfl ?_ (by rw [List.size_toArray, List.length_map]; exact Nat.le_of_lt (small1000 (by omega))) (by
      rw [Array.size_push, List.size_toArray, List.length_map]
      exact Nat.succ_le_succ (Nat.le_of_lt (small1000 (by omega)))))
    have l3 : ((Ts ++ [T]).map V.ref).length ≤ sizeLine := by
      rw [List.length_map, List.length_append]
      exact Nat.le_of_lt (small1000 (by show Ts.length + 1 ≤ 1000; omega))
    have s2' : Same H0 (upd H1 T (.tup [.int (κ a).1, .int (κ a).2])) := Same.upd' s1' (s1'.free nT)
    refine wpAny_pure ⟨rfl, upd (upd H1 T (.tup [.int (κ a).1, .int (κ a).2])) kS (.lst ((Ts ++ [T]).map V.ref)), Ts ++ [T], ?_, Same.upd' s2' fS, by rw [upd_ne (Ne.symm nDS)]; exact hD2, upd_same, by rw [List.length_append, lT]; rfl, fun j' T' a' q1 q2 => ?_⟩
    · exact I2.write (x := kS) (e := kS) (t' := s2.toks) (by rw [hS2]; trivial) (.inl rfl) (fun b u hb' q => (Heap.get?_update_other _ _ (Ne.symm hb')).trans q) ⟨_, ek2⟩ ⟨l3, (Ts ++ [T]).map Value.ref, c2, vals_refs _, ek2⟩
    · rcases Nat.lt_trichotomy j' Ts.length with q | q | q
      · rw [List.getElem?_append_left q] at q1
        have z := hT j' T' a' q1 q2
        have n1 : T' ≠ T := ne_of_none z nT
        have n2 : T' ≠ kS := fun w => by rw [w, hS1] at z; cases z
        rw [upd_ne n2, upd_ne n1]
        exact z
      · subst q
        rw [List.getElem?_append_right (Nat.le_refl _)] at q1
        have eT : T' = T := by simpa using q1.symm
        subst eT
        have ea : a' = a := by
          have e9 : Ts.length = j := by omega
          rw [e9, ha] at q2
          exact (Option.some.inj q2).symm
        subst ea
        rw [upd_ne (Ne.symm nTS), upd_same]
      · rw [List.getElem?_append_right (Nat.le_of_lt q)] at q1
        have : [T][j' - Ts.length]? = none := List.getElem?_eq_none (by show 1 ≤ _; omega)
        rw [this] at q1
        cases q1
  case done =>
    rintro s1 ⟨H1, Ts, I1, s1', hD1, hS1, lT, hT⟩
    rw [List.length_map, Nat.zero_add] at lT
    obtain ⟨_, its, n, rk, ek⟩ := I1.hok kS _ hS1
    have ei := vals_refs_eq rk
    subst ei
    try dsimp only
    refine wpAny_bind (listItems_at ek rfl ?_)
    exact sortK_end I1 hD1 hS1 nDS lT l1 hT fun s' bs I' p1 p2 p3 => h s' bs _ I' (Same.upd' (Same.upd' s1' fS) fD) upd_same p1 p2 p3
theorem sortK_call {l : Addr} {Q : VK} (F : FnOk X.prog X.w X.K X.mg X.base CX0 k f fd ps sp) (hr : Room k X.A.in1.in1) (hb : Binds X.K fd ps []) (I : Inv X pins σ H s) (hl : SqL X.K H l (as.map V.ref)) (l1 : as.length ≤ 1000) (hK : KeyOk sp H as κ)
    (h : ∀ (H' : Hp) (D : Addr) (bs : List Addr), Same H H' → H' D = some (.lst (bs.map V.ref)) → bs.Perm as → bs.Pairwise (fun a b => lexI (κ b) (κ a) = false) → (∀ c, bs.filter (fun a => κ a == c) = as.filter (fun a => κ a == c)) → Q (.ref D) H') :
    wpAny (model X.prog X.w) X.A (call (.builtin "sorted") [.ref l] [(Str.ofString "key", .ref f)]) (EP X pins σ Q) X.xe s := by
  obtain ⟨its, rv, pl, hz⟩ := I.list hl
  have ei := vals_refs_eq rv
  subst ei
  have hZ : (as.map Value.ref).length ≤ sizeLine := by rw [List.length_map]; exact Nat.le_of_lt (small1000 l1)
  refine call_function_entry_kw kind_sorted plain_sorted entry_sorted (ksk_s1 _ _) ?_
  unfold Builtin.«sorted»
  refine wpAny_bind (m := checkCount "sorted" 1 1 _) (wpAny_pure ?_)
  refine wpAny_bind (collect_list pl.isList ?_ hZ)
  refine wpAny_bind (wpAny_newList ?_ hZ)
  have hsz : ((s.heap.push (seqObj "list" #[] 0)).update s.heap.objs.size (Obj.mapSeq (· ++ (as.map Value.ref).toArray))).objs.size = s.heap.objs.size + 1 := by
    rw [Heap.size_update, size_push']
  show wpAny _ _ _ _ _ { s with heap := ((s.heap.push (seqObj "list" #[] 0)).update s.heap.objs.size (Obj.mapSeq (· ++ (as.map Value.ref).toArray))).push (seqObj "list" (as.map Value.ref).toArray 0) }
  rw [hsz]
  generalize hh1 : ((s.heap.push (seqObj "list" #[] 0)).update s.heap.objs.size (Obj.mapSeq (· ++ (as.map Value.ref).toArray))).push (seqObj "list" (as.map Value.ref).toArray 0) = h1
  have hoL : h1.get? (s.heap.objs.size + 1) = some (seqObj "list" (as.map Value.ref).toArray 0) := by
    rw [← hh1, ← hsz]; exact Heap.get?_push_size _ rfl
  have keep : ∀ b o, s.heap.get? b = some o → h1.get? b = some o := fun b o q => by
    have hlt : b < s.heap.objs.size := Heap.lt_size q
    rw [← hh1, Heap.get?_push_ne _ _ _ (by rw [hsz]; exact Nat.ne_of_lt (Nat.lt_succ_of_lt hlt)), Heap.get?_update_ne _ _ _ _ (Nat.ne_of_lt hlt), Heap.get?_push_ne _ _ _ (Nat.ne_of_lt hlt)]
    exact q
  generalize hDd : s.heap.objs.size + 1 = D at hoL ⊢
  refine wpAny_bind (wpAny_holding (wpAny_call_entry_kw slot_list_sort ⟨_, hoL, rfl⟩ entry_list_sort ?body (ksk_l1 _ _)))
  case body =>
    show wpAny (model X.prog X.w) X.A.in1.in1 (Builtin.«list.sort» ⟨[.ref D], [(Str.ofString "key", .ref f)]⟩) _ _ _
    rw [ksk_t1]
    have hsD : s.heap.objs.size ≤ D := by rw [← hDd]; exact Nat.le_succ _
    have fD : H D = none := I.hok.fresh hsD
    obtain ⟨e1, ho1⟩ : ∃ e1, (h1.update D (Obj.mapSeq fun _ => (#[] : Array Value))).get? D = some (seqObj "list" #[] e1) := ⟨_, get?_update_seq hoL fun _ => #[]⟩
    generalize hh2 : h1.update D (Obj.mapSeq fun _ => (#[] : Array Value)) = h2 at ho1
    have keep2 : ∀ b o, s.heap.get? b = some o → h2.get? b = some o := fun b o q => by
      have hlt : b < s.heap.objs.size := Heap.lt_size q
      rw [← hh2, Heap.get?_update_ne _ _ _ _ (Nat.ne_of_lt (Nat.lt_of_lt_of_le hlt hsD))]
      exact keep b o q
    have sz2 : h2.objs.size = s.heap.objs.size + 2 := by
      rw [← hh2, Heap.size_update, ← hh1, size_push', hsz]
    have I2 : Inv X pins σ (upd H D (exactly D (seqObj "list" #[] e1))) { s with heap := h2.push (seqObj "tuple" (as.map Value.ref).toArray 0) } :=
      I.laid (t' := s.toks) (fun b o q => Heap.get?_push_of_some _ (keep2 b o q)) hsD (exactly_ok (Heap.get?_push_of_some _ ho1))
    have nS : upd H D (exactly D (seqObj "list" #[] e1)) (h2.push (seqObj "tuple" (as.map Value.ref).toArray 0)).objs.size = none := I2.hok.fresh (Nat.le_refl _)
    have I3 : Inv X pins σ (upd (upd H D (exactly D (seqObj "list" #[] e1))) (h2.push (seqObj "tuple" (as.map Value.ref).toArray 0)).objs.size (.lst [])) { s with heap := (h2.push (seqObj "tuple" (as.map Value.ref).toArray 0)).push (seqObj "list" #[] 0) } :=
      I2.laid (t' := s.toks) (fun b o q => Heap.get?_push_of_some _ q) (Nat.le_refl _) ⟨Nat.zero_le _, [], 0, .nil, Heap.get?_push_size _ rfl⟩
    generalize hkS : (h2.push (seqObj "tuple" (as.map Value.ref).toArray 0)).objs.size = kS at nS I3
    have nDS : kS ≠ D := fun z => by rw [z, upd_same] at nS; cases nS
    have fS : H kS = none := by rw [upd_ne nDS] at nS; exact nS
    unfold ksk_tree
    refine wpAny_bind (listItems_at hoL rfl ?_)
    refine wpAny_bind (listUpdate_at hoL rfl ?_ (by rw [List.size_toArray]; exact hZ) (Nat.zero_le _))
    show wpAny _ _ _ _ _ { s with heap := h1.update D (Obj.mapSeq fun _ => (#[] : Array Value)) }
    rw [hh2]
    refine wpAny_bind (seqEpoch_at ho1 rfl ?_)
    refine wpAny_bind (wpAny_newTuple ?_ hZ)
    refine wpAny_bind (wpAny_newList ?_ (Nat.zero_le _))
    refine wpAny_holding ?_
    show wpAny _ _ (ksk_rest D (.ref f) false (as.map Value.ref).toArray e1 (.ref (h2.push (seqObj "tuple" (as.map Value.ref).toArray 0)).objs.size)) _ _ { s with heap := (h2.push (seqObj "tuple" (as.map Value.ref).toArray 0)).push (seqObj "list" #[] 0) }
    rw [hkS]
    refine sortK_rest (H0 := H) F hr hb I3 (Same.upd' (Same.upd fD) fS) fD fS (by rw [upd_ne (Ne.symm nDS), upd_same]) upd_same nDS l1 hK fun s' bs H' I' s1 hD' p1 p2 p3 => ⟨_, rfl, ?_⟩
    exact wpAny_pure ⟨_, rfl, .ref D, H', I', rfl, h H' D bs s1 hD' p1 p2 p3⟩
end
/-- sorted(e, key = g) -/
def tSortK (K : PySem.W.Frag) (sp : Sp) (t : TA) : TE := fun σ H Q => t σ H fun vs H1 => ∃ (l : Addr) (as : List Addr) (κ : Addr → Int × Int), vs = [.ref l] ∧ SqL K H1 l (as.map V.ref) ∧ as.length ≤ 1000 ∧ KeyOk sp H1 as κ ∧
  ∀ (H' : Hp) (D : Addr) (bs : List Addr), Same H1 H' → H' D = some (.lst (bs.map V.ref)) → bs.Perm as → bs.Pairwise (fun a b => lexI (κ b) (κ a) = false) → (∀ c, bs.filter (fun a => κ a == c) = as.filter (fun a => κ a == c)) → Q (.ref D) H'
theorem pe_sortK {X : Cx} {k k' : Nat} {g : Str} {ps : List Str} {sp : Sp} {e : Expr} {t : TA} {p gp kpos pos : Pos} (Dg : Dep X.prog X.w X.K X.mg X.base CX0 k g ps sp) (hr : Room k' X.A) (hg : Gl X "sorted") (hm : X.mg "sorted" = none) (hgg : Gl X g) (ha : PA X [e] t) (hle : k + 2 ≤ k' := by decide) (hdg : (g == ("__debug__" : Str)) = false := by decide)
    (h1 : backTo pos (starEach [e] X.env) = (false, eval e X.env) :: backTo pos (starEach [] X.env) := by rfl) (h2 : (backTo pos (starEach [e] X.env)).any (·.1) = false := by rfl) :
    PE X (.Call (.Name "sorted" p) [e] [⟨some "key", .Name g gp, kpos⟩] pos) (tSortK X.K sp t) := by
  intro pins s σ H Q I h
  obtain ⟨f, fd, m, kp, b, F⟩ := Dg.ex
  refine wpAny_Call_Name_kw (ld_blt I hg hm boot_sorted ?_)
  refine callWith_kw (thn (ha pos pins s σ H _ I h) fun us s1 ⟨vs, H1, I1, r1, q1⟩ => ?_) h1 h2
  refine thn (pk_cons (nm := some "key") (kpos := kpos) (pe_glob (v := .ref f) hgg m rfl hdg) pk_nil pos pins s1 σ H1 (fun zs H2 => zs = [.ref f] ∧ H2 = H1) I1 ⟨rfl, rfl⟩) fun ws s2 ⟨zs, H2, I2, rz, ez, eH⟩ => ?_
  subst ez eH
  obtain ⟨l, as, κ, ex, hl, l1, hK, q⟩ := q1
  subst ex
  rw [Vals.ref1 r1, Vals.ref1 rz]
  exact sortK_call F ((hr.mono hle).in1.in1) b I2 hl l1 hK q
end L2

set_option Elab.async false
set_option linter.all false
set_option maxRecDepth 100000
set_option maxHeartbeats 2000000
namespace Pr
open PySem PySem.Spec PyProof.Rows L2 CxM

theorem bA (x y : Nat) : Builtin.bitAnd (x : Int) (y : Int) = ((x &&& y : Nat) : Int) := by
  rw [bitAnd_pp (Int.natCast_nonneg x) (Int.natCast_nonneg y), Int.toNat_natCast, Int.toNat_natCast]
theorem bits_nat (a : Nat) : Builtin.Int.intBits (a : Int) = bitlen a := by
  unfold Builtin.Int.intBits bitlen
  by_cases h : a = 0
  · subst h; rfl
  · rw [if_neg h, if_neg (by simp; omega), Int.natAbs_natCast]
def rN (C : Nat → Nat → Nat → Prop) : R2 := fun x y H Q => ∃ a b c : Nat, x = .int a ∧ y = .int b ∧ C a b c ∧ Q (.int c) H
def rB (C : Nat → Nat → Bool → Prop) : R2 := fun x y H Q => ∃ (a b : Nat) (c : Bool), x = .int a ∧ y = .int b ∧ C a b c ∧ Q (.bl c) H

section
variable {X : Cx}
theorem opImp {f : Value → Value → Sem Value} {r r' : R2} (h : OpR X f r) (i : ∀ x y H Q, r' x y H Q → r x y H Q) : OpR X f r' :=
  fun pins s σ H x y v u Q I rx ry q => h pins s σ H x y v u Q I rx ry (i x y H Q q)

theorem opN_and : OpR X (binaryOp .BitAnd) (rN fun a b c => a &&& b = c) := opImp op_and fun x y H Q ⟨a, b, c, hx, hy, hc, q⟩ => ⟨a, b, hx, hy, by show Q (V.int _) H; rw [bA, hc]; exact q⟩
theorem opN_shr : OpR X (binaryOp .RShift) (rN fun a b c => a / 2 ^ b = c) := opImp op_shr fun x y H Q ⟨a, b, c, hx, hy, hc, q⟩ => ⟨a, b, hx, hy, Int.natCast_nonneg b, by
  have e : (a : Int) / 2 ^ (b : Int).toNat = (c : Int) := by
    rw [Int.toNat_natCast, ← hc, Int.natCast_ediv, Int.natCast_pow]
    rfl
  show Q (V.int _) H; rw [e]; exact q⟩
theorem opN_shl : OpR X (binaryOp .LShift) (rN fun a b c => bitlen a + b ≤ 2 ^ 27 ∧ a * 2 ^ b = c) := opImp op_shlB fun x y H Q ⟨a, b, c, hx, hy, ⟨h1, hc⟩, q⟩ => ⟨a, b, hx, hy, ⟨Int.natCast_nonneg b, by rw [bits_nat]; omega⟩, by
  have e : (a : Int) * 2 ^ (b : Int).toNat = (c : Int) := by
    rw [Int.toNat_natCast, ← hc, Int.natCast_mul, Int.natCast_pow]
    rfl
  show Q (V.int _) H; rw [e]; exact q⟩
theorem opN_add : OpR X (binaryOp .Add) (rN fun a b c => a + b = c) := opImp op_add fun x y H Q ⟨a, b, c, hx, hy, hc, q⟩ => ⟨a, b, hx, hy, by
  have e : (a : Int) + (b : Int) = (c : Int) := by omega
  show Q (V.int _) H; rw [e]; exact q⟩
theorem opN_sub : OpR X (binaryOp .Sub) (rN fun a b c => c + b = a) := opImp op_sub fun x y H Q ⟨a, b, c, hx, hy, hc, q⟩ => ⟨a, b, hx, hy, by
  have e : (a : Int) - (b : Int) = (c : Int) := by omega
  show Q (V.int _) H; rw [e]; exact q⟩
theorem opN_fdiv : OpR X (binaryOp .FloorDiv) (rN fun a b c => 0 < b ∧ b < 2 ^ 8000 ∧ a / b = c) := opImp op_fdivB fun x y H Q ⟨a, b, c, hx, hy, ⟨h0, h1, hc⟩, q⟩ => ⟨a, b, hx, hy, ⟨by omega, by
    rw [Int.natAbs_natCast]
    have := (Nat.log2_lt (show b ≠ 0 by omega)).2 h1
    omega⟩, by
  have e : (a : Int).fdiv (b : Int) = (c : Int) := by rw [Int.fdiv_eq_ediv_of_nonneg _ (Int.natCast_nonneg b), ← hc, Int.natCast_ediv]
  show Q (V.int _) H; rw [e]; exact q⟩
theorem dV (a b : Nat) : decide (V.int (a : Int) = V.int (b : Int)) = decide (a = b) := by
  by_cases h : a = b
  · subst h; simp
  · rw [decide_eq_false h, decide_eq_false]
    intro e
    injection e with e
    omega
theorem opB_eq : OpR X (compareOp .Eq) (rB fun a b c => decide (a = b) = c) := opImp op_eq fun x y H Q ⟨a, b, c, hx, hy, hc, q⟩ => by
  subst hx hy
  exact ⟨rfl, by show Q (V.bl _) H; rw [dV, hc]; exact q⟩
theorem opB_ne : OpR X (compareOp .NotEq) (rB fun a b c => (!decide (a = b)) = c) := opImp op_ne fun x y H Q ⟨a, b, c, hx, hy, hc, q⟩ => by
  subst hx hy
  exact ⟨rfl, by show Q (V.bl _) H; rw [dV, hc]; exact q⟩
theorem opB_le : OpR X (compareOp .LtE) (rB fun a b c => decide (a ≤ b) = c) := opImp op_le fun x y H Q ⟨a, b, c, hx, hy, hc, q⟩ => ⟨a, b, hx, hy, by
  have e : decide ((a : Int) ≤ (b : Int)) = c := by rw [← hc]; exact decide_eq_decide.mpr Int.ofNat_le
  show Q (V.bl _) H; rw [e]; exact q⟩

/-- a whole number of the module's -/
theorem gI {x : Str} {i : Int} {pos : Pos} (h : ∃ t, X.mg x = some (.int i t)) (hg : Gl X x := by rfl) (hd : (x == ("__debug__" : Str)) = false := by decide) : PE X (.Name x pos) (tC (.int i)) :=
  let ⟨t, e⟩ := h
  pe_glob hg e ⟨t, rfl⟩ hd
end

def unitsG (fb inf x : Nat) : Nat := if (x &&& inf) / 2 ^ fb = 0 then x &&& (2 ^ fb - 1) else ((x &&& (2 ^ fb - 1)) + 2 ^ fb) * 2 ^ ((x &&& inf) / 2 ^ fb - 1)
theorem units_G (x : Nat) : unitsG 52 9218868437227405312 x = units x := by
  unfold unitsG units
  rw [and_inf, Nat.mul_div_cancel _ (Nat.two_pow_pos 52), Nat.and_two_pow_sub_one_eq_mod]
theorem finG (x : Nat) : (!decide (x &&& 9218868437227405312 = 9218868437227405312)) = fin? x := by
  rw [and_inf]
  unfold fin?
  by_cases h : x / 2 ^ 52 % 2 ^ 11 = 2047
  · rw [h]; rfl
  · rw [decide_eq_false (by omega), decide_eq_true h]; rfl
end Pr

set_option Elab.async false
set_option linter.all false
set_option maxRecDepth 100000
set_option maxHeartbeats 4000000
namespace Pr
open PySem PySem.Spec PyProof.Rows L2 CxM
open PySem.W (Codec)

def iv (n : Nat) : V := V.int (n : Int)
def spHas : Sp := fun vs H Q _ => ∃ x m : Nat, vs = [.int x, .int m] ∧ Q (.bl (!decide (x &&& m = m))) H
def spUnitsOf : Sp := fun vs H Q _ => ∃ x fb inf : Nat, vs = [.int x, .int fb, .int inf] ∧ fb ≤ 64 ∧ (x &&& inf) / 2 ^ fb ≤ 4096 ∧ Q (.int (unitsG fb inf x : Nat)) H
def spFin : Sp := fun vs H Q _ => ∃ x : Nat, vs = [.int x] ∧ Q (.bl (fin? x)) H
def spUnits : Sp := fun vs H Q _ => ∃ x : Nat, vs = [.int x] ∧ Q (.int (units x : Nat)) H
def spSigned : Sp := fun vs H Q _ => ∃ x : Nat, vs = [.int x] ∧ x < 2 ^ 64 ∧ Q (.int (signed x)) H
def spShort (K : PySem.W.Frag) : Sp := fun vs H Q _ => ∃ (p : Addr) (xs : List V), vs = [.ref p] ∧ SqL K H p xs ∧ xs.length ≤ 128 ∧ Q (.bl true) H
theorem take_succ_of {α : Type} {l : List α} {i : Nat} {x : α} (h : l[i]? = some x) : l.take (i + 1) = l.take i ++ [x] := by
  obtain ⟨hi, e⟩ := List.getElem?_eq_some_iff.mp h
  rw [List.take_add_one, h]
  rfl
theorem map_iv_get {ns : List Nat} {i : Nat} {x : V} (hi : (ns.map iv)[i]? = some x) : ∃ n, ns[i]? = some n ∧ x = iv n := by
  rw [List.getElem?_map] at hi
  cases e : ns[i]? with
  | none => rw [e] at hi; cases hi
  | some n => rw [e] at hi; exact ⟨n, rfl, (Option.some.inj hi).symm⟩
theorem nats_iv : ∀ {l : List Int} {m : Nat}, (∀ z ∈ l, 0 ≤ z ∧ z < 2 ^ m) → l.map V.int = (Sc06Neutral.nats l).map iv
  | [], _, _ => rfl
  | z :: l, m, h => by
    have h0 := h z (by simp)
    have e : V.int z = iv z.toNat := by
      unfold iv
      congr 1
      omega
    have ih := nats_iv (l := l) fun y hy => h y (by simp [hy])
    unfold Sc06Neutral.nats at ih ⊢
    rw [List.map_cons, List.map_cons, List.map_cons, ← ih, e]

/-- a number at a; numbers at as -/
def NumE (H : Hp) (a : Addr) (p : Pr2) : Prop := H a = some (.lst [iv p.1, iv p.2])
def Nums (H : Hp) : List Addr → List Pr2 → Prop
  | [], [] => True
  | a :: as, p :: ps => NumE H a p ∧ Nums H as ps
  | _, _ => False
theorem Nums.same {H H' : Hp} (s : Same H H') : ∀ {as : List Addr} {ps : List Pr2}, Nums H as ps → Nums H' as ps
  | [], [], _ => trivial
  | _ :: _, _ :: _, h => ⟨s _ _ h.1, Nums.same s h.2⟩
  | [], _ :: _, h => h.elim
  | _ :: _, [], h => h.elim
theorem Nums.length {H : Hp} : ∀ {as : List Addr} {ps : List Pr2}, Nums H as ps → as.length = ps.length
  | [], [], _ => rfl
  | _ :: _, _ :: _, h => by simp [Nums.length h.2]
  | [], _ :: _, h => h.elim
  | _ :: _, [], h => h.elim
theorem Nums.get {H : Hp} : ∀ {as : List Addr} {ps : List Pr2} {i : Nat} {a : Addr}, Nums H as ps → as[i]? = some a → ∃ p, ps[i]? = some p ∧ NumE H a p
  | _ :: _, p :: _, 0, a, h, e => ⟨p, rfl, by simp at e; rw [← e]; exact h.1⟩
  | _ :: _, _ :: _, i + 1, a, h, e => by
    obtain ⟨p, h1, h2⟩ := Nums.get (i := i) h.2 (by simpa using e)
    exact ⟨p, by simpa using h1, h2⟩
  | [], [], i, a, _, e => by simp at e
  | [], _ :: _, _, _, h, _ => h.elim
  | _ :: _, [], _, _, h, _ => h.elim
theorem Nums.snoc {H : Hp} {a : Addr} {p : Pr2} (hp : NumE H a p) : ∀ {as : List Addr} {ps : List Pr2}, Nums H as ps → Nums H (as ++ [a]) (ps ++ [p])
  | [], [], _ => ⟨hp, trivial⟩
  | _ :: _, _ :: _, h => ⟨h.1, Nums.snoc hp h.2⟩
  | [], _ :: _, h => h.elim
  | _ :: _, [], h => h.elim
theorem Nums.keep {H H' : Hp} (k : ∀ b p, NumE H b p → NumE H' b p) : ∀ {as : List Addr} {ps : List Pr2}, Nums H as ps → Nums H' as ps
  | [], [], _ => trivial
  | _ :: _, _ :: _, h => ⟨k _ _ h.1, Nums.keep k h.2⟩
  | [], _ :: _, h => h.elim
  | _ :: _, [], h => h.elim
theorem NumE.upd_new {H : Hp} {a c : Addr} {p : Pr2} {o : HO} (h : NumE H a p) (hc : H c = none) : NumE (upd H c o) a p := by
  unfold NumE at h ⊢
  rw [upd_ne (ne_of_none h hc)]
  exact h
theorem NumE.ne_list {H : Hp} {a D : Addr} {p : Pr2} {as : List Addr} (h : NumE H a p) (hD : H D = some (.lst (as.map V.ref))) : a ≠ D := by
  unfold NumE at h
  rintro rfl
  rw [h] at hD
  have e : [iv p.1, iv p.2] = as.map V.ref := by
    have := Option.some.inj hD
    injection this
  cases as with
  | nil => cases e
  | cons b bs =>
    have e2 := (List.cons.inj e).1
    unfold iv at e2
    cases e2
theorem NumE.upd_list {H : Hp} {a D : Addr} {p : Pr2} {as : List Addr} {o : HO} (h : NumE H a p) (hD : H D = some (.lst (as.map V.ref))) : NumE (upd H D o) a p := by
  have n := h.ne_list hD
  unfold NumE at h ⊢
  rw [upd_ne n]
  exact h
theorem refs_get {as : List Addr} {i : Nat} {x : V} (hi : (as.map V.ref)[i]? = some x) : ∃ a, as[i]? = some a ∧ x = .ref a := by
  rw [List.getElem?_map] at hi
  cases e : as[i]? with
  | none => rw [e] at hi; cases hi
  | some n => rw [e] at hi; exact ⟨n, rfl, (Option.some.inj hi).symm⟩
def spNumbersOf (K : PySem.W.Frag) : Sp := fun vs H Q _ => ∃ (p : Addr) (a : List Nat) (n : Nat), vs = [.ref p] ∧ SqL K H p (a.map iv) ∧ a.length = 2 * n ∧ n ≤ 128 ∧
  ∀ (H' : Hp) (l : Addr) (as : List Addr), Same H H' → H l = none → H' l = some (.lst (as.map V.ref)) → Nums H' as (pairsOf a) → Q (.ref l) H'
def spPartsOf (K : PySem.W.Frag) : Sp := fun vs H Q _ => ∃ (p : Addr) (as : List Addr) (ps : List Pr2), vs = [.ref p] ∧ SqL K H p (as.map V.ref) ∧ Nums H as ps ∧ ps.length ≤ 64 ∧
  ∀ (H' : Hp) (r : Addr), Same H H' → H r = none → H' r = some (.lst ((flatP ps).map iv)) → Q (.ref r) H'
def spAllF (K : PySem.W.Frag) : Sp := fun vs H Q _ => ∃ (p : Addr) (ns : List Nat), vs = [.ref p] ∧ SqL K H p (ns.map iv) ∧ ns.length ≤ 1000 ∧ ∀ H', Same H H' → Q (.bl (allFin ns)) H'
/-- rows at rs -/
def Rows (K : PySem.W.Frag) (H : Hp) : List Addr → List (List Nat) → Prop
  | [], [] => True
  | a :: as, r :: rs => (SqL K H a (r.map iv) ∧ r.length ≤ 1000) ∧ Rows K H as rs
  | _, _ => False
theorem Rows.same {K : PySem.W.Frag} {H H' : Hp} (s : Same H H') : ∀ {as : List Addr} {ps : List (List Nat)}, Rows K H as ps → Rows K H' as ps
  | [], [], _ => trivial
  | _ :: _, _ :: _, h => ⟨⟨s.seq h.1.1, h.1.2⟩, Rows.same s h.2⟩
  | [], _ :: _, h => h.elim
  | _ :: _, [], h => h.elim
theorem Rows.length {K : PySem.W.Frag} {H : Hp} : ∀ {as : List Addr} {ps : List (List Nat)}, Rows K H as ps → as.length = ps.length
  | [], [], _ => rfl
  | _ :: _, _ :: _, h => by simp [Rows.length h.2]
  | [], _ :: _, h => h.elim
  | _ :: _, [], h => h.elim
theorem Rows.get {K : PySem.W.Frag} {H : Hp} : ∀ {as : List Addr} {ps : List (List Nat)} {i : Nat} {a : Addr}, Rows K H as ps → as[i]? = some a → ∃ p, ps[i]? = some p ∧ SqL K H a (p.map iv) ∧ p.length ≤ 1000
  | _ :: _, p :: _, 0, a, h, e => ⟨p, rfl, by simp at e; rw [← e]; exact h.1⟩
  | _ :: _, _ :: _, i + 1, a, h, e => by
    obtain ⟨p, h1, h2⟩ := Rows.get (i := i) h.2 (by simpa using e)
    exact ⟨p, by simpa using h1, h2⟩
  | [], [], i, a, _, e => by simp at e
  | [], _ :: _, _, _, h, _ => h.elim
  | _ :: _, [], _, _, h, _ => h.elim
def allRows (rows : List (List Nat)) : Bool := (rows.map allFin).all id
/-- what answer is handed: whether it's in range, the rows, the function that computes res -/
def spAnswer (P : Program) (w : World) (K : PySem.W.Frag) (mg : Str → Option Value) (base : Heap) (C1 : Addr) : Sp := fun vs H Q _ =>
  ∃ (ir : Bool) (rl f : Addr) (rs : List Addr) (rows : List (List Nat)) (fd : FuncData) (spf : Sp) (res : Except Bad (List Pr2)),
    vs = [.bl ir, .ref rl, .ref f] ∧ SqL K H rl (rs.map V.ref) ∧ Rows K H rs rows ∧ rs.length ≤ 100 ∧
    FnOk P w K mg base (CX1 P w) 9 f fd [] spf ∧ Binds K fd [] [] ∧ (∃ oc od fd' sl, H f = some (fz ⟨oc, od, .func fd', sl⟩)) ∧
    (ir = true → allRows rows = true → ∀ (H1 : Hp) (Q1 : VK) (E1 : XK), Same H H1 → (∀ (H2 : Hp) (l : Addr) (as : List Addr) (ps : List Pr2), res = .ok ps → SqL K H2 l (as.map V.ref) → Nums H2 as ps → ps.length ≤ 64 → Same H1 H2 → Q1 (.ref l) H2) →
      (∀ H2 : Hp, res = .error .inf → Same H1 H2 → E1 (.ref C1) none H2) → spf [] H1 Q1 E1) ∧
    ∀ (H3 : Hp) (r : Addr), Same H H3 → H3 r = some (.lst ((ansW ir (allRows rows) res).map V.int)) → Q (.ref r) H3
theorem drop_two {a : List Nat} {i n : Nat} (hl : a.length = 2 * n) (hi : i < n) : ∃ p q, a.drop (2 * i) = p :: q :: a.drop (2 * (i + 1)) ∧ p ∈ a ∧ q ∈ a := by
  have h1 : 2 * i < a.length := by omega
  have h2 : 2 * i + 1 < a.length := by omega
  refine ⟨a[2 * i], a[2 * i + 1], ?_, List.getElem_mem _, List.getElem_mem _⟩
  rw [List.drop_eq_getElem_cons h1, List.drop_eq_getElem_cons h2]
  rfl
theorem cut_two {a : List Nat} {i n p q : Nat} (hl : a.length = 2 * n) (hi : i < n) (e : a.drop (2 * i) = p :: q :: a.drop (2 * (i + 1))) :
    cutV (a.map iv) (some (0 + (i : Nat) * 2)) (some (0 + (i : Nat) * 2 + 2)) = [iv p, iv q] := by
  unfold cutV
  have e1 : (0 + (i : Int) * 2) = ((2 * i : Nat) : Int) := by omega
  have e2 : (0 + (i : Int) * 2 + 2) = ((2 * i + 2 : Nat) : Int) := by omega
  rw [e2, e1, HT.sIx_nat, HT.sIx_nat, List.length_map]
  have m1 : min (2 * i) a.length = 2 * i := by omega
  have m2 : min (2 * i + 2) a.length = 2 * i + 2 := by omega
  rw [m1, m2, ← List.map_drop, e, show 2 * i + 2 - 2 * i = 2 by omega]
  rfl
theorem range_small {n : Nat} (hn : n ≤ 128) : Builtin.Range.small 0 ((2 * n : Nat) : Int) 2 = true := by
  have e : Builtin.Range.rangeSize 0 ((2 * n : Nat) : Int) 2 = n := by
    unfold Builtin.Range.rangeSize
    rw [if_pos (by decide)]
    by_cases h : n = 0
    · subst h; rfl
    · rw [if_pos (by omega)]; omega
  unfold Builtin.Range.small
  rw [e, if_pos (by decide)]
  have f : ∀ z : Int, -1000 ≤ z → z ≤ 1000 → Builtin.Range.rangeFitsLong z = true := fun z h1 h2 => by
    unfold Builtin.Range.rangeFitsLong
    simp
    omega
  rw [f 0 (by decide) (by decide), f _ (by omega) (by omega), f 2 (by decide) (by decide), f n (by omega) (by omega), f _ (by omega) (by omega)]
  simp
theorem rg_two {n m : Nat} (hn : n ≤ 128) (hm : m = 2 * n) : RgC 0 (m : Int) 2 n := by
  subst hm
  refine ⟨by decide, by decide, ?_, ?_⟩
  · exact range_small hn
  · unfold Builtin.Range.rangeSize
    rw [if_pos (by decide)]
    by_cases h : n = 0
    · subst h; rfl
    · rw [if_pos (by omega)]; omega
theorem pairs_take_succ {a : List Nat} {i n p q : Nat} (hl : a.length = 2 * n) (hi : i < n) (e : a.drop (2 * i) = p :: q :: a.drop (2 * (i + 1))) : (pairsOf a).take (i + 1) = (pairsOf a).take i ++ [(p, q)] := by
  refine take_succ_of ?_
  have key : ∀ (i : Nat) (l : List Nat) (r : List Nat), l.drop (2 * i) = p :: q :: r → (CxM.pairsOf l)[i]? = some (p, q) := by
    intro i
    induction i with
    | zero => intro l r h; rw [show l.drop (2 * 0) = l from rfl] at h; subst h; rfl
    | succ i ih =>
      intro l r h
      match l, h with
      | [], h => simp at h
      | [x], h =>
        have := congrArg List.length h
        rw [List.length_drop] at this
        simp at this
        omega
      | x :: y :: l, h =>
        have : l.drop (2 * i) = p :: q :: r := by
          rw [show 2 * (i + 1) = 2 * i + 2 by omega] at h
          exact h
        have := ih l r this
        simpa [CxM.pairsOf] using this
  exact key i a _ e

theorem clo_has {cells : List (Str × Addr)} {names : List (Str × NameKind)} (hf : ∀ y ∈ names, y.2 = .free → ∃ c, cells.lookup y.1 = some c) {x : Str} (hx : (x, NameKind.free) ∈ names) : ∃ c, (cloFrom cells names []).lookup x = some c ∧ cells.lookup x = some c := by
  obtain ⟨c', e'⟩ := mem_lookup (cloFrom_has (cells := cells) (acc := []) hx)
  refine ⟨c', e', ?_⟩
  rcases cloFrom_mem (PySem.mem_of_lookup e') with h | ⟨h1, h2⟩
  · cases h
  · obtain ⟨c, hc⟩ := hf _ h1 rfl
    have hc : cells.lookup x = some c := hc
    rw [hc] at h2
    rw [hc, h2]
    rfl
theorem clo_of {cells : List (Str × Addr)} {names : List (Str × NameKind)} (hf : ∀ y ∈ names, y.2 = .free → ∃ c, cells.lookup y.1 = some c) {x : Str} {c : Addr} (h : (cloFrom cells names []).lookup x = some c) : cells.lookup x = some c ∧ (x, NameKind.free) ∈ names := by
  rcases cloFrom_mem (PySem.mem_of_lookup h) with h | ⟨h1, h2⟩
  · cases h
  · obtain ⟨c', hc⟩ := hf _ h1 rfl
    have hc : cells.lookup x = some c' := hc
    rw [hc] at h2
    refine ⟨?_, h1⟩
    rw [hc, h2]
    rfl
/-- a lambda's cells, from those that its def is told -/
theorem lam_in {scope : Scope} {cells : List (Str × Addr)} {cs : List (Addr × Obj)} {N : List Str} {vals : List V} (kind : scope.kind = .function) (co : scope.isCoroutine = false) (gen : scope.isGenerator = false) (nocell : ∀ y ∈ scope.names, y.2 ≠ .cell) (nd : N.Nodup)
    (inj : ∀ x y c, cells.lookup x = some c → cells.lookup y = some c → x = y) (hf : ∀ y ∈ scope.names, y.2 = .free → ∃ c, cells.lookup y.1 = some c)
    (hc : ∀ x c, cells.lookup x = some c → ∃ o v, cs.lookup c = some o ∧ o.data = .cell v) (len : vals.length ≤ N.length)
    (val : ∀ (i : Nat) x v, N[i]? = some x → vals[i]? = some v → scope.names.lookup x = some .free ∧ ∃ c o u, cells.lookup x = some c ∧ cs.lookup c = some o ∧ o.data = .cell (some u) ∧ RelV v u) :
    LamIn scope (cloFrom cells scope.names []) cs N vals := by
  refine ⟨kind, co, gen, nocell, nd, fun x y c h1 h2 => inj x y c (clo_of hf h1).1 (clo_of hf h2).1, fun x h => ?_, fun x c h => hc x c (clo_of hf h).1, len, fun i x v h1 h2 => ?_⟩
  · obtain ⟨c, h1, _⟩ := clo_has hf (PySem.mem_of_lookup h)
    exact ⟨c, h1⟩
  · obtain ⟨k, c, o, u, e1, e2, e3, r⟩ := val i x v h1 h2
    refine ⟨k, c, o, u, ?_, e2, e3, r⟩
    obtain ⟨c', q1, q2⟩ := clo_has hf (PySem.mem_of_lookup k)
    rw [e1] at q2
    cases q2
    exact q1
/-- the exceptions of a lambda's body, the cells told again -/
theorem cx1_ov {P : Program} {w : World} {outer : List Env} {H : Hp} {s : Shared} {E : XK} {e : Value} {s' : Shared} {cs : List (Addr × Obj)} (hc : ∀ b o, cs.lookup b = some o → H b = some (fz o) ∧ s.heap.get? b = some o ∧ b ∉ frs outer)
    (h : CX1 P w outer (cut H cs) s (fun C x H' => (∀ b o, cs.lookup b = some o → H' b = none) → E C x (ov H' cs)) e s') : CX1 P w outer H s E e s' := by
  obtain ⟨a, C, t, B, H', he, os, bare, un, hok, fl, c1, c2, hE⟩ := h
  have kept := cells_kept un hc
  refine ⟨a, C, t, B, ov H' cs, he, os, bare, un_cut_fwd un hc, hok_ov hok kept, fl, c1, fun b u q => ?_, hE fun b o z => (kept b o z).2⟩
  cases z : cs.lookup b with
  | some o => exact c1 b o (hc b o z).2.1 (hc b o z).2.2
  | none =>
    rw [ov_out z] at q
    exact c2 b u q
theorem made3 {H : Hp} {rl Pt f' c' : Addr} {L t fo co : HO} {ps : Array Value} (hrl : H rl = none) (hPt : H Pt = some (.tbl ps)) (nf : upd H rl L f' = none) (nc : upd H rl L c' = none) (fc : f' ≠ c') (fP : f' ≠ Pt) (cP : c' ≠ Pt) :
    (upd (upd (upd (upd H rl L) Pt t) c' co) f' fo) f' = some fo ∧ (upd (upd (upd (upd H rl L) Pt t) c' co) f' fo) c' = some co ∧ (upd (upd (upd (upd H rl L) Pt t) c' co) f' fo) rl = some L ∧
    ∀ b u, H b = some u → b ≠ Pt → (upd (upd (upd (upd H rl L) Pt t) c' co) f' fo) b = some u := by
  have rP : rl ≠ Pt := fun z => by rw [z, hPt] at hrl; cases hrl
  have r1 : rl ≠ f' := fun z => by rw [← z, upd_same] at nf; cases nf
  have r2 : rl ≠ c' := fun z => by rw [← z, upd_same] at nc; cases nc
  have hf : H f' = none := by rw [upd_ne (Ne.symm r1)] at nf; exact nf
  have hc : H c' = none := by rw [upd_ne (Ne.symm r2)] at nc; exact nc
  refine ⟨upd_same, by rw [upd_ne (Ne.symm fc), upd_same], by rw [upd_ne r1, upd_ne r2, upd_ne rP, upd_same], fun b u e hb => ?_⟩
  rw [upd_ne (ne_of_none e hf), upd_ne (ne_of_none e hc), upd_ne hb, upd_ne (ne_of_none e hrl)]
  exact e
theorem seqBut {K : PySem.W.Frag} {H H1 : Hp} {Pt p : Addr} {ps : Array Value} {xs : List V} (k : ∀ b u, H b = some u → b ≠ Pt → H1 b = some u) (hPt : H Pt = some (.tbl ps)) (h : SqL K H p xs) : SqL K H1 p xs := by
  rcases h with (h | ⟨o, h⟩) | h
  · exact .inl (.inl (k _ _ h fun z => by rw [z, hPt] at h; cases h))
  · exact .inl (.inr ⟨o, k _ _ h fun z => by rw [z, hPt] at h; cases h⟩)
  · exact .inr h
theorem cells_apart {h : Heap} {names : List (Str × NameKind)} : ∀ x y c, (cellsFrom (h.objs.size + 1) names []).lookup x = some c → (cellsFrom (h.objs.size + 1) names []).lookup y = some c → x = y := by
  intro x y c h1 h2
  rw [← Heap.size_push h { cls := .type "frame", data := .dict #[] }] at h1 h2
  exact cells_inj (fun p hp => absurd (show p ∈ ([] : List (Str × Addr)) from hp) (by simp)) (fun _ _ _ hp => absurd hp (by simp)) (PySem.mem_of_lookup h1) (PySem.mem_of_lookup h2)
def cellC (sc scope : Scope) : Bool := scope.names.all fun y => match y.2 with
  | .free => (match sc.names.lookup y.1 with | some .cell => true | _ => false)
  | .cell => false
  | _ => true
theorem cell_by {sc scope : Scope} {n : Nat} (h : cellC sc scope = true) : (∀ y ∈ scope.names, y.2 = .free → ∃ c, (cellsFrom n sc.names []).lookup y.1 = some c) ∧ ∀ y ∈ scope.names, y.2 ≠ .cell := by
  unfold cellC at h
  refine ⟨fun y hy e => ?_, fun y hy e => ?_⟩
  · have q := List.all_eq_true.mp h y hy
    simp only [e] at q
    split at q
    · exact cell_has (by assumption)
    · cases q
  · have q := List.all_eq_true.mp h y hy
    simp only [e] at q
    cases q
section
variable {P : Program} {w : World} {K : PySem.W.Frag} {mg : Str → Option Value} {base : Heap} {C1 : Addr}
theorem lam_answer {H1 : Hp} {Q : VK} {ir : Bool} {rl f c' : Addr} {rs : List Addr} {rows : List (List Nat)} {res : Except Bad (List Pr2)} {cells : List (Str × Addr)} {cs : List (Addr × Obj)} {ns : List (Str × Nat)} {σ : L2.St} {N : List Str} {vals : List V} {qual : Str} {params : Arguments} {ebody : Expr} {scope : Scope}
    {pm ctv : Value} {oc : Obj} {cvs : Array Value} {ct : Tok}
    (hrl : SqL K H1 rl (rs.map V.ref)) (hR : Rows K H1 rs rows) (hrs : rs.length ≤ 100) (hf : H1 f = some (fz (PySem.W.kla_obj "<lambda>" qual params ebody scope (cloFrom cells scope.names []) pm c' ctv))) (hc' : H1 c' = some (fz oc)) (hoc : oc.data = .fields cvs) (hq : cvs[1]? = some (.str qual ct))
    (k1 : ∀ b o, cs.lookup b = some o → H1 b = none ∧ ∃ x, cells.lookup x = some b) (k2 : ∀ x c, cells.lookup x = some c → ∃ o v, cs.lookup c = some o ∧ o.data = .cell v)
    (k3 : ∀ x i v, (x, i) ∈ ns → σ[i]? = some (some v) → ∃ c o u, cells.lookup x = some c ∧ cs.lookup c = some o ∧ o.data = .cell (some u) ∧ RelV v u)
    (kind : scope.kind = .function) (co : scope.isCoroutine = false) (gen : scope.isGenerator = false) (nocell : ∀ y ∈ scope.names, y.2 ≠ .cell) (nd : N.Nodup) (inj : ∀ x y c, cells.lookup x = some c → cells.lookup y = some c → x = y)
    (hfr : ∀ y ∈ scope.names, y.2 = .free → ∃ c, cells.lookup y.1 = some c) (len : vals.length ≤ N.length)
    (hval : ∀ (i : Nat) x v, N[i]? = some x → vals[i]? = some v → scope.names.lookup x = some .free ∧ ∃ j, (x, j) ∈ ns ∧ σ[j]? = some (some v))
    (hpar : bindArgs (PySem.W.kla_fn "<lambda>" qual params ebody scope (cloFrom cells scope.names []) pm (.ref c') ctv) ⟨[], []⟩ = pure [])
    (hbody : ir = true → allRows rows = true → ∀ (A : Around) (outer : List Env) (s : Shared) (Hc : Hp) (Q1 : VK) (E1 : XK), Room 8 (A.deeper (PySem.W.envX qual scope s.heap.objs.size f (.ref c') (cloFrom cells scope.names []))) → Same H1 Hc →
      (∀ (H2 : Hp) (l : Addr) (as : List Addr) (ps : List Pr2), res = .ok ps → SqL K H2 l (as.map V.ref) → Nums H2 as ps → ps.length ≤ 64 → Same Hc H2 → Q1 (.ref l) H2) → (∀ H2 : Hp, res = .error .inf → Same Hc H2 → E1 (.ref C1) none H2) →
      ∃ t, PE (cxL (CX1 P w) P w K mg base N qual scope f (.ref c') (cloFrom cells scope.names []) A outer s Hc E1) ebody t ∧ t (start N vals) Hc Q1)
    (k : ∀ (H3 : Hp) (r : Addr), H3 r = some (.lst ((ansW ir (allRows rows) res).map V.int)) → Q (.ref r) H3) :
    spAnswer P w K mg base C1 [.bl ir, .ref rl, .ref f] (ov H1 cs) (fun v H' => Q v (cut H' cs)) E0 := by
  have hc0 : ∀ b o, cs.lookup b = some o → H1 b = none := fun b o z => (k1 b o z).1
  have so : Same H1 (ov H1 cs) := Same.ov_self hc0
  have S : LamIn scope (cloFrom cells scope.names []) cs N vals := lam_in kind co gen nocell nd inj hfr k2 len fun i x v h1 h2 => by
    obtain ⟨a, j, b, c⟩ := hval i x v h1 h2
    exact ⟨a, k3 x j v b c⟩
  have FL := lam_ok (P := P) (w := w) (K := K) (mg := mg) (base := base) (CX := CX1 P w) (k := 8) (f := f) (c' := c') (oc := oc) (params := params) (ebody := ebody) (pm := pm) (ctv := ctv) (qual := qual) (body := fun Q1 E1 Hc => (ir = true ∧ allRows rows = true) ∧ Same H1 Hc ∧
      (∀ (H2 : Hp) (l : Addr) (as : List Addr) (ps : List Pr2), res = .ok ps → SqL K H2 l (as.map V.ref) → Nums H2 as ps → ps.length ≤ 64 → Same Hc H2 → Q1 (.ref l) H2) ∧ (∀ H2 : Hp, res = .error .inf → Same Hc H2 → E1 (.ref C1) none H2))
    S hoc hq (fun outer H s E e s' h1 h2 => cx1_ov h1 h2) hpar (fun A outer s H Q E hr hb => hbody hb.1.1 hb.1.2 A outer s H Q E hr hb.2.1 hb.2.2.1 hb.2.2.2)
  refine ⟨ir, rl, f, rs, rows, _, _, res, rfl, so.seq hrl, hR.same so, hrs, FL, fun s us _ hl => ?_, ⟨_, _, _, _, so _ _ hf⟩, fun h1 h2 H2 Q1 E1 s2 hQ hE => ?_, fun H3 r s3 hr => ?_⟩
  · have e : us = [] := by
      rw [List.append_nil] at hl
      exact List.eq_nil_of_length_eq_zero hl
    subst e
    exact .of_eq hpar
  · have hcs : ∀ b o, cs.lookup b = some o → H2 b = some (fz o) := fun b o z => s2 _ _ (ov_in z)
    refine ⟨rfl, s2 _ _ (so _ _ hf), s2 _ _ (so _ _ hc'), hcs, ⟨h1, h2⟩, s2.cut hc0, fun H3 l as ps e hl hN hp s3 hn => ?_, fun H3 e s3 hn => ?_⟩
    · have s4 : Same H3 (ov H3 cs) := Same.ov_self hn
      exact hQ _ l as ps e (s4.seq hl) (hN.same s4) hp (s3.ov hcs)
    · exact hE _ e (s3.ov hcs)
  · refine k _ r ?_
    cases z : cs.lookup r with
    | none => rw [cut_out z]; exact hr
    | some o =>
      have := s3 r _ (ov_in z)
      rw [hr] at this
      cases this
end
end Pr

set_option Elab.async false
set_option linter.all false
set_option maxRecDepth 100000
set_option maxHeartbeats 4000000
namespace Pr
open PySem PySem.Spec PyProof.Rows L2 CxM
open PySem.W (Codec)

def numF (H : Hp) (a : Addr) : Pr2 := match H a with
  | some (.lst [.int x, .int y]) => (x.toNat, y.toNat)
  | _ => (0, 0)
theorem numF_of {H : Hp} {a : Addr} {p : Pr2} (h : NumE H a p) : numF H a = p := by
  have h : H a = some (.lst [.int (p.1 : Int), .int (p.2 : Int)]) := h
  unfold numF
  rw [h]
  show ((p.1 : Int).toNat, (p.2 : Int).toNat) = p
  rw [Int.toNat_natCast, Int.toNat_natCast]
theorem Nums.numF {H : Hp} : ∀ {as : List Addr} {ps : List Pr2}, Nums H as ps → ps = as.map (numF H)
  | [], [], _ => rfl
  | a :: as, p :: ps, h => by rw [List.map_cons, numF_of h.1, ← Nums.numF h.2]
  | [], _ :: _, h => h.elim
  | _ :: _, [], h => h.elim
theorem nums_map {H H' : Hp} : ∀ {bs : List Addr}, (∀ b ∈ bs, NumE H' b (numF H b)) → Nums H' bs (bs.map (numF H))
  | [], _ => trivial
  | b :: bs, h => ⟨h b (by simp), nums_map fun c hc => h c (by simp [hc])⟩
theorem Nums.mem {H : Hp} {as : List Addr} {ps : List Pr2} (h : Nums H as ps) {a : Addr} (ha : a ∈ as) : NumE H a (Pr.numF H a) ∧ Pr.numF H a ∈ ps := by
  obtain ⟨i, hi⟩ := List.getElem?_of_mem ha
  obtain ⟨p, hp, hE⟩ := h.get hi
  rw [numF_of hE]
  exact ⟨hE, List.mem_of_getElem? hp⟩
def spPlace (K : PySem.W.Frag) : Sp := fun vs H Q _ => ∃ (p : Addr) (x : Pr2), vs = [.ref p] ∧ SqL K H p [iv x.1, iv x.2] ∧ Bt x ∧ ∀ T, H T = none → Q (.ref T) (upd H T (.tup [.int (signed x.1), .int (signed x.2)]))
end Pr

set_option Elab.async false
set_option linter.all false
set_option maxRecDepth 100000
set_option maxHeartbeats 4000000
namespace Pr
open PySem PySem.Spec PyProof.Rows L2 CxM
/-! ### the text by places -/
def top (i : Nat) : Stmt := PySem.Challenge.pw_complexrows_s09_sort.main.body.getD i (.Pass ⟨0, 0, 0, 0⟩)
abbrev s_has_finite_bits : Stmt := top 2
abbrev s_units_of : Stmt := top 3
abbrev s_is_finite : Stmt := top 8
abbrev s_units : Stmt := top 9
abbrev s_signed_units : Stmt := top 10
abbrev s_numbers_of : Stmt := top 15
abbrev s_parts_of : Stmt := top 16
abbrev s_all_finite : Stmt := top 17
abbrev s_answer : Stmt := top 18
abbrev s_short_enough : Stmt := top 19
abbrev s_place_in_order : Stmt := top 20
abbrev s_sort : Stmt := top 21
structure Txt (K : PySem.W.Frag) (mg : Str → Option Value) (C1 C2 : Addr) : Prop where
  c_SIGN : ∃ t, mg "SIGN" = some (.int 9223372036854775808 t)
  c_INFINITY : ∃ t, mg "INFINITY" = some (.int 9218868437227405312 t)
  c_FRACTION_BITS : ∃ t, mg "FRACTION_BITS" = some (.int 52 t)
  c_MOST_NUMBERS : ∃ t, mg "MOST_NUMBERS" = some (.int 4096 t)
  n_max : mg "max" = none
  n_all : mg "all" = none
  n_len : mg "len" = none
  n_range : mg "range" = none
  n_zip : mg "zip" = none
  n_list : mg "list" = none
  n_sorted : mg "sorted" = none
  k_NoFiniteResult : mg "NoFiniteResult" = some (.ref C1)
  x_NoFiniteResult : PySem.W.excIn K C1 bmA newA = true
  k_NoPivot : mg "NoPivot" = some (.ref C2)
  x_NoPivot : PySem.W.excIn K C2 bmA newA = true
end Pr
namespace Pr
open PySem PySem.Spec PyProof.Rows L2 CxM
open PySem.W (Codec)
section
variable {P : Program} {w : World} {K : PySem.W.Frag} {mg : Str → Option Value} {base : Heap} {C1 C2 : Addr}
theorem sc_has_finite_bits : FnScope ["bits", "infinity"] ["bits", "infinity"] (defScope s_has_finite_bits) := ⟨rfl, rfl, rfl, by decide +kernel, rfl, by decide +kernel, by decide +kernel⟩
theorem d_has_finite_bits (B : FunB K mg "has_finite_bits" s_has_finite_bits ["bits", "infinity"]) : Dep P w K mg base CX0 1 "has_finite_bits" ["bits", "infinity"] spHas := by
  refine dep_of B sc_has_finite_bits (fun vs H Q E h => ?_) (fun f cdv A outer s H vs Q E hr h => ?_)
  · obtain ⟨x, m, rfl, _⟩ := h
    rfl
  · obtain ⟨x, m, rfl, k⟩ := h
    refine ⟨_, pss_one (ps_ret (pe_cmpR opB_ne (pe_op opN_and (pv 0) (pv 1)) (pv 1) (nomark _))), ?_⟩
    exact ⟨_, rfl, _, rfl, x, m, _, rfl, rfl, rfl, _, rfl, _, m, _, rfl, rfl, rfl, k⟩

theorem sc_units_of : FnScope ["bits", "fraction_bits", "infinity", "leading_bit", "exponent", "fraction"] ["bits", "fraction_bits", "infinity"] (defScope s_units_of) := ⟨rfl, rfl, rfl, by decide +kernel, rfl, by decide +kernel, by decide +kernel⟩
theorem d_units_of (B : FunB K mg "units_of" s_units_of ["bits", "fraction_bits", "infinity"]) : Dep P w K mg base CX0 1 "units_of" ["bits", "fraction_bits", "infinity"] spUnitsOf := by
  refine dep_of B sc_units_of (fun vs H Q E h => ?_) (fun f cdv A outer s H vs Q E hr h => ?_)
  · obtain ⟨x, fb, inf, rfl, _⟩ := h
    rfl
  · obtain ⟨x, fb, inf, rfl, h1, h2, k⟩ := h
    refine ⟨_, pss_cons (ps_set (i := 3) sc_units_of.nd rfl (Or.inl rfl) (pe_op opN_shl pe_int (pv 1)))
      (pss_cons (ps_set (i := 4) sc_units_of.nd rfl (Or.inl rfl) (pe_op opN_shr (pe_op opN_and (pv 0) (pv 2)) (pv 1)))
      (pss_cons (ps_set (i := 5) sc_units_of.nd rfl (Or.inl rfl) (pe_op opN_and (pv 0) (pe_op opN_sub (pv 3) pe_int)))
      (pss_cons (ps_if (pt_cmpR opB_eq (pv 4) pe_int (nomark _)) (pss_one (ps_ret (pv 5))) pss_nil)
      (pss_one (ps_ret (pe_op opN_shl (pe_op opN_add (pv 5) (pv 3)) (pe_op opN_sub (pv 4) pe_int))))))), ?_⟩
    have b1 : bitlen 1 = 1 := rfl
    have p1 := Nat.two_pow_pos fb
    refine ⟨_, rfl, 1, fb, 2 ^ fb, rfl, rfl, ⟨by omega, Nat.one_mul _⟩, ?_⟩
    refine ⟨_, rfl, _, rfl, x, inf, _, rfl, rfl, rfl, _, rfl, _, fb, _, rfl, rfl, rfl, ?_⟩
    refine ⟨_, rfl, _, rfl, 2 ^ fb, 1, 2 ^ fb - 1, rfl, rfl, by omega, x, _, _, rfl, rfl, rfl, ?_⟩
    refine ⟨_, rfl, _, 0, _, rfl, rfl, rfl, _, rfl, ?_⟩
    have hu : unitsG fb inf x = if (x &&& inf) / 2 ^ fb = 0 then x &&& (2 ^ fb - 1) else ((x &&& (2 ^ fb - 1)) + 2 ^ fb) * 2 ^ ((x &&& inf) / 2 ^ fb - 1) := rfl
    have hf : (x &&& (2 ^ fb - 1)) < 2 ^ fb := by
      rw [Nat.and_two_pow_sub_one_eq_mod]
      exact Nat.mod_lt _ p1
    by_cases h0 : (x &&& inf) / 2 ^ fb = 0
    · rw [decide_eq_true h0]
      rw [if_pos h0] at hu
      refine iteT ⟨_, rfl, ?_⟩
      rw [← hu]
      exact k
    · rw [decide_eq_false h0]
      rw [if_neg h0] at hu
      refine iteF ⟨_, rfl, _, rfl, _, _, _, rfl, rfl, rfl, _, rfl, _, 1, (x &&& inf) / 2 ^ fb - 1, rfl, rfl, Nat.sub_add_cancel (Nat.pos_of_ne_zero h0), _, _, _, rfl, rfl, ⟨?_, rfl⟩, ?_⟩
      · have hb : bitlen ((x &&& (2 ^ fb - 1)) + 2 ^ fb) ≤ fb + 1 := bitlen_le (by rw [Nat.pow_succ]; omega)
        omega
      · rw [← hu]
        exact k

theorem sc_is_finite : FnScope ["x"] ["x"] (defScope s_is_finite) := ⟨rfl, rfl, rfl, by decide +kernel, rfl, by decide +kernel, by decide +kernel⟩
theorem d_is_finite (B : FunB K mg "is_finite" s_is_finite ["x"]) (T : Txt K mg C1 C2) (DH : Dep P w K mg base CX0 1 "has_finite_bits" ["bits", "infinity"] spHas) : Dep P w K mg base CX0 2 "is_finite" ["x"] spFin := by
  refine dep_of B sc_is_finite (fun vs H Q E h => ?_) (fun f cdv A outer s H vs Q E hr h => ?_)
  · obtain ⟨x, rfl, _⟩ := h
    rfl
  · obtain ⟨x, rfl, k⟩ := h
    refine ⟨_, pss_one (ps_ret (pe_dep DH hr pass0 (pa_cons (pv 0) (pa_cons (gI T.c_INFINITY) pa_nil)))), ?_⟩
    refine ⟨_, rfl, x, 9218868437227405312, rfl, ?_⟩
    rw [finG]
    exact k

theorem sc_units : FnScope ["x"] ["x"] (defScope s_units) := ⟨rfl, rfl, rfl, by decide +kernel, rfl, by decide +kernel, by decide +kernel⟩
theorem d_units (B : FunB K mg "units" s_units ["x"]) (T : Txt K mg C1 C2) (DU : Dep P w K mg base CX0 1 "units_of" ["bits", "fraction_bits", "infinity"] spUnitsOf) : Dep P w K mg base CX0 2 "units" ["x"] spUnits := by
  refine dep_of B sc_units (fun vs H Q E h => ?_) (fun f cdv A outer s H vs Q E hr h => ?_)
  · obtain ⟨x, rfl, _⟩ := h
    rfl
  · obtain ⟨x, rfl, k⟩ := h
    refine ⟨_, pss_one (ps_ret (pe_dep DU hr pass0 (pa_cons (pv 0) (pa_cons (gI T.c_FRACTION_BITS) (pa_cons (gI T.c_INFINITY) pa_nil))))), ?_⟩
    refine ⟨_, rfl, x, 52, 9218868437227405312, rfl, by decide, ?_, ?_⟩
    · rw [and_inf, Nat.mul_div_cancel _ (Nat.two_pow_pos 52)]
      have := Nat.mod_lt (x / 2 ^ 52) (Nat.two_pow_pos 11)
      omega
    · rw [units_G]
      exact k

theorem sc_signed_units : FnScope ["x"] ["x"] (defScope s_signed_units) := ⟨rfl, rfl, rfl, by decide +kernel, rfl, by decide +kernel, by decide +kernel⟩
theorem d_signed_units (B : FunB K mg "signed_units" s_signed_units ["x"]) (T : Txt K mg C1 C2) (DU : Dep P w K mg base CX0 2 "units" ["x"] spUnits) : Dep P w K mg base CX0 3 "signed_units" ["x"] spSigned := by
  refine dep_of B sc_signed_units (fun vs H Q E h => ?_) (fun f cdv A outer s H vs Q E hr h => ?_)
  · obtain ⟨x, rfl, _⟩ := h
    rfl
  · obtain ⟨x, rfl, hx, k⟩ := h
    refine ⟨_, pss_cons (ps_if (pt_truth (pe_op opN_and (pv 0) (gI T.c_SIGN)) (fun _ => rfl)) (pss_one (ps_ret (pe_un un_neg (pe_dep DU hr pass0 (pa_cons (pv 0) pa_nil))))) pss_nil)
      (pss_one (ps_ret (pe_dep DU hr pass0 (pa_cons (pv 0) pa_nil)))), ?_⟩
    refine ⟨_, rfl, x, 9223372036854775808, _, rfl, rfl, and_sign x, _, rfl, ?_⟩
    have hs : signed x = if neg? x then -(units x : Int) else (units x : Int) := rfl
    by_cases hn : 2 ^ 63 ≤ x
    · have e : ((((x / 2 ^ 63 % 2 * 2 ^ 63 : Nat) : Int)) != 0) = true := by
        simp
        omega
      rw [e]
      refine iteT ⟨_, rfl, x, rfl, _, rfl, ?_⟩
      rw [show neg? x = true from decide_eq_true hn, if_pos rfl] at hs
      show Q (.int (-(units x : Int))) H
      rw [← hs]
      exact k
    · have e : ((((x / 2 ^ 63 % 2 * 2 ^ 63 : Nat) : Int)) != 0) = false := by
        have : x / 2 ^ 63 % 2 * 2 ^ 63 = 0 := by omega
        rw [this]; rfl
      rw [e]
      refine iteF ⟨_, rfl, x, rfl, ?_⟩
      rw [show neg? x = false from decide_eq_false hn, if_neg (by decide)] at hs
      rw [← hs]
      exact k

theorem sc_numbers_of : FnScope ["row", "i"] ["row"] (defScope s_numbers_of) := ⟨rfl, rfl, rfl, by decide +kernel, rfl, by decide +kernel, by decide +kernel⟩
theorem d_numbers_of (B : FunB K mg "numbers_of" s_numbers_of ["row"]) (T : Txt K mg C1 C2) : Dep P w K mg base CX0 1 "numbers_of" ["row"] (spNumbersOf K) := by
  refine dep_of B sc_numbers_of (fun vs H Q E h => ?_) (fun f cdv A outer s H vs Q E hr h => ?_)
  · obtain ⟨p, a, n, rfl, _⟩ := h
    rfl
  · obtain ⟨p, a, n, rfl, hp, hl, hn, k⟩ := h
    refine ⟨_, pss_one (ps_ret (pe_lc (own := [("i", 1)]) rfl sc_numbers_of.nd (pi_range3 rfl T.n_range (pa_cons pe_int (pa_cons (pe_callB call_len_seq rfl T.n_len PySem.boot_len (pa_cons (pv 0) pa_nil)) (pa_cons pe_int pa_nil)))) (blkOk_by rfl)
      (fun _ _ _ _ _ => pg_name (i := 1) sc_numbers_of.nd rfl (Or.inl rfl) (Or.inr rfl)) (fun _ _ _ _ _ => pts_nil) (fun _ _ _ _ _ => pe_slice (r := rSlL K) sl_list (pv 0) (po_some (pv 1)) (po_some (pe_op op_add (pv 1) pe_int))))), ?_⟩
    refine ⟨_, rfl, p, _, rfl, .inl hp, 0, _, 2, n, rfl, rg_two hn (by rw [List.length_map]; exact hl), fun D hD => ?_⟩
    refine lc_rangeC (fun i H' => Same H H' ∧ ∃ as : List Addr, H' D = some (.lst (as.map V.ref)) ∧ as.length = i ∧ Nums H' as ((pairsOf a).take i)) ⟨Same.upd hD, [], upd_same, rfl, trivial⟩ ?_ ?_
    · rintro i H' hi ⟨s1, as, hd, la, hN⟩
      refine ⟨rfl, yesIt ?_⟩
      obtain ⟨p0, q0, e, _, _⟩ := drop_two hl hi
      refine ⟨_, rfl, _, rfl, _, rfl, _, rfl, _, _, rfl, rfl, _, rfl, p, _, rfl, s1.seq hp, fun c hc => ?_⟩
      rw [cut_two hl hi e]
      have nD : D ≠ c := ne_of_none hd hc
      refine ⟨as.map V.ref, by rw [upd_ne nD]; exact hd, ?_, ?_, as ++ [c], ?_, by rw [List.length_append, la]; rfl, ?_⟩
      · rw [List.length_map, la]
        exact small1000 (by omega)
      · exact Same.upd' (Same.upd' s1 (s1.free hc)) hD
      · rw [upd_same, List.map_append]
        rfl
      · rw [pairs_take_succ hl hi e]
        refine Nums.snoc ?_ (hN.keep fun b q z => ?_)
        · unfold NumE
          rw [upd_ne (Ne.symm nD), upd_same]
        · refine NumE.upd_list (z.upd_new hc) (as := as) ?_
          rw [upd_ne nD]
          exact hd
    · rintro H' ⟨s1, as, hd, la, hN⟩
      refine k H' D as s1 hD hd ?_
      rw [List.take_of_length_le (by rw [pairsOf_len hl]; exact Nat.le_refl _)] at hN
      exact hN

theorem sc_parts_of : FnScope ["numbers", "parts", "number"] ["numbers"] (defScope s_parts_of) := ⟨rfl, rfl, rfl, by decide +kernel, rfl, by decide +kernel, by decide +kernel⟩
theorem d_parts_of (B : FunB K mg "parts_of" s_parts_of ["numbers"]) (T : Txt K mg C1 C2) : Dep P w K mg base CX0 1 "parts_of" ["numbers"] (spPartsOf K) := by
  refine dep_of B sc_parts_of (fun vs H Q E h => ?_) (fun f cdv A outer s H vs Q E hr h => ?_)
  · obtain ⟨p, as, ps, rfl, _⟩ := h
    rfl
  · obtain ⟨p, as, ps, rfl, hp, hN, hn, k⟩ := h
    refine ⟨_, pss_cons (ps_set (i := 1) sc_parts_of.nd rfl (Or.inl rfl) (pe_lst pa_nil))
      (pss_cons (ps_for PassesOwn.leaving rfl (pi_list (pv 0)) (pg_name (i := 2) sc_parts_of.nd rfl (Or.inl rfl))
        (pss_one (ps_expr (pe_bm PySem.F.plainAttrs_list PySem.F.slot_list_extend PySem.F.type_list_extend mt_extend (pv 1) (pa_cons (pv 2) pa_nil)))))
      (pss_one (ps_ret (pv 1)))), ?_⟩
    refine ⟨Nat.zero_le _, fun r hr' => ?_⟩
    refine ⟨_, rfl, p, rfl, ⟨_, (Same.upd hr').seq hp⟩, for_list (K := K) (a := p) (xs := as.map V.ref) (fun i σ H' => ∃ v : Option V, σ = [some (.ref p), some (.ref r), v] ∧ Same H H' ∧ H' r = some (.lst ((flatP (ps.take i)).map iv)))
      ⟨none, rfl, Same.upd hr', upd_same⟩ (fun i σ H' _ ⟨_, _, s1, _⟩ => s1.seq hp) ?_ ?_⟩
    · rintro i y σ H' hi ⟨v, rfl, s1, hr1⟩
      obtain ⟨a, ha, rfl⟩ := refs_get hi
      obtain ⟨q, hq, hE⟩ := hN.get ha
      refine ⟨_, rfl, .inl ⟨rfl, _, SqL.of hr1⟩, _, rfl, r, a, _, _, rfl, rfl, hr1, s1 _ _ hE, ?_, ?_⟩
      · rw [List.length_map, flatP_len, List.length_take]
        exact Nat.le_of_lt (small1000 (by show _ + 2 ≤ 1000; omega))
      · refine ⟨_, rfl, Same.upd' s1 hr', ?_⟩
        rw [upd_same, take_succ_of hq, flatP_append, List.map_append]
        rfl
    · rintro σ H' ⟨v, rfl, s1, hr1⟩
      rw [List.length_map, hN.length, List.take_length] at hr1
      exact ⟨_, rfl, k H' r s1 hr' hr1⟩

theorem sc_all_finite : FnScope ["row", "part"] ["row"] (defScope s_all_finite) := ⟨rfl, rfl, rfl, by decide +kernel, rfl, by decide +kernel, by decide +kernel⟩
theorem d_all_finite (B : FunB K mg "all_finite" s_all_finite ["row"]) (T : Txt K mg C1 C2) (DF : Dep P w K mg base CX0 2 "is_finite" ["x"] spFin) : Dep P w K mg base CX0 3 "all_finite" ["row"] (spAllF K) := by
  refine dep_of B sc_all_finite (fun vs H Q E h => ?_) (fun f cdv A outer s H vs Q E hr h => ?_)
  · obtain ⟨p, ns, rfl, _⟩ := h
    rfl
  · obtain ⟨p, ns, rfl, hp, hn, k⟩ := h
    refine ⟨_, pss_one (ps_ret (pe_callB (cr_all rfl) rfl T.n_all boot_all (pa_cons (pe_lc (own := [("part", 1)]) rfl sc_all_finite.nd (pi_list (pv 0)) (blkOk_by rfl)
      (fun _ _ _ _ _ => pg_name (i := 1) sc_all_finite.nd rfl (Or.inl rfl) (Or.inr rfl)) (fun _ _ _ _ _ => pts_nil) (fun _ _ _ _ _ => pe_dep DF hr pass0 (pa_cons (pv 1) pa_nil))) pa_nil))), ?_⟩
    refine ⟨_, rfl, p, rfl, ⟨_, hp⟩, fun D hD => ?_⟩
    refine lc_list (K := K) (a := p) (xs := ns.map iv) (fun i H' => Same H H' ∧ H' D = some (.lst ((ns.take i).map fun n => V.bl (fin? n)))) ⟨Same.upd hD, upd_same⟩ (fun i H' _ ⟨s1, _⟩ => s1.seq hp) ?_ ?_
    · rintro i x H' hi ⟨s1, hd⟩
      obtain ⟨n, hn', rfl⟩ := map_iv_get hi
      refine ⟨rfl, yesIt ?_⟩
      refine ⟨_, rfl, n, rfl, _, hd, ?_, Same.upd' s1 hD, ?_⟩
      · rw [List.length_map, List.length_take]
        exact small1000 (by omega)
      · rw [upd_same, take_succ_of hn', List.map_append]
        rfl
    · rintro H' ⟨s1, hd⟩
      rw [List.length_map, List.take_length] at hd
      refine ⟨D, ns.map fin?, rfl, SqL.of (by rw [hd, List.map_map]; rfl), ?_⟩
      have e : (ns.map fin?).all id = allFin ns := by
        unfold allFin
        rw [List.all_map]
        rfl
      rw [e]
      exact k H' s1

theorem sc_answer : FnScope ["in_range", "rows", "compute", "row"] ["in_range", "rows", "compute"] (defScope s_answer) := ⟨rfl, rfl, rfl, by decide +kernel, rfl, by decide +kernel, by decide +kernel⟩
theorem d_answer (B : FunB K mg "answer" s_answer ["in_range", "rows", "compute"]) (T : Txt K mg C1 C2) (DA : Dep P w K mg base CX0 3 "all_finite" ["row"] (spAllF K)) (DP : Dep P w K mg base CX0 1 "parts_of" ["numbers"] (spPartsOf K)) :
    Dep P w K mg base CX0 10 "answer" ["in_range", "rows", "compute"] (spAnswer P w K mg base C1) := by
  refine dep_of B sc_answer (fun vs H Q E h => ?_) (fun f cdv A outer s H vs Q E hr h => ?_)
  · obtain ⟨ir, rl, f', rs, rows, fd, spf, res, rfl, _⟩ := h
    rfl
  · obtain ⟨ir, rl, f', rs, rows, fd, spf, res, rfl, hrl, hR, hrs, F, hb, hf, hc, k⟩ := h
    refine ⟨_, pss_cons (ps_if (PW.pt (pw_or (pt_not (pt_val (pv 0))) (pw_or1 (pt_not (pt_val (pe_callB (cr_all rfl) rfl T.n_all boot_all (pa_cons (pe_lc (own := [("row", 3)]) rfl sc_answer.nd (pi_list (pv 1)) (blkOk_by rfl)
        (fun _ _ _ _ _ => pg_name (i := 3) sc_answer.nd rfl (Or.inl rfl) (Or.inr rfl)) (fun _ _ _ _ _ => pts_nil) (fun _ _ _ _ _ => pe_dep DA hr pass0 (pa_cons (pv 3) pa_nil))) pa_nil)))))))
        (pss_one (ps_ret (pe_lst (pa_cons (pe_un un_neg pe_int) pa_nil)))) pss_nil)
      (pss_one (ps_try (C := C1) ⟨rfl, rfl, rfl⟩ rfl rfl T.k_NoFiniteResult T.x_NoFiniteResult
        (fun xe' pn' E' hpo hpa => pss_one (ps_ret (pe_op op_cat (pe_lst (pa_cons pe_int pa_nil)) (pe_dep DP hr pass0 (pa_cons (pe_callV0 2 F hr hb hpa) pa_nil)))))
        (fun A' xe' pn' => pss_one (ps_ret (pe_lst (pa_cons (pe_un un_neg pe_int) pa_nil)))))), ?_⟩
    have s1 : 1 ≤ sizeLine := Nat.le_of_lt (small1000 (by decide))
    refine ⟨_, rfl, _, rfl, ?_⟩
    cases ir with
    | false =>
      refine iteT (iteT ⟨_, rfl, s1, fun l hl => k _ l (Same.upd hl) upd_same⟩)
    | true =>
    refine iteF ⟨_, rfl, rl, rfl, ⟨_, hrl⟩, fun D hD => ?_⟩
    refine lc_list (K := K) (a := rl) (xs := rs.map V.ref) (fun i H' => Same H H' ∧ H' D = some (.lst ((rows.take i).map fun r => V.bl (allFin r)))) ⟨Same.upd hD, upd_same⟩ (fun i H' _ ⟨z, _⟩ => z.seq hrl) ?_ ?_
    · rintro i x H' hi ⟨z1, hd⟩
      obtain ⟨a, ha, rfl⟩ := refs_get hi
      obtain ⟨r, hr', hS, hl⟩ := hR.get ha
      refine ⟨rfl, yesIt ?_⟩
      refine ⟨_, rfl, a, r, rfl, z1.seq hS, hl, fun H2 z2 => ⟨_, z2 _ _ hd, ?_, Same.upd' (z1.trans z2) hD, ?_⟩⟩
      · have : i < rs.length := by
          have := (List.getElem?_eq_some_iff.mp ha).1
          exact this
        rw [List.length_map, List.length_take]
        exact small1000 (by omega)
      · rw [upd_same, take_succ_of hr', List.map_append]
        rfl
    · rintro H' ⟨z1, hd⟩
      rw [List.length_map, hR.length, List.take_length] at hd
      refine ⟨D, rows.map allFin, rfl, SqL.of (by rw [hd, List.map_map]; rfl), _, rfl, ?_⟩
      cases hfin : allRows rows with
      | false =>
        have e : (rows.map allFin).all id = false := hfin
        rw [e]
        rw [hfin] at k
        refine iteT ⟨_, rfl, s1, fun l hl => k _ l (Same.upd' z1 (z1.free hl)) upd_same⟩
      | true =>
        have e : (rows.map allFin).all id = true := hfin
        rw [e]
        rw [hfin] at k
        refine iteF ⟨s1, fun l hl => ?_⟩
        have z2 : Same H (upd H' l (.lst [.int 0])) := Same.upd' z1 (z1.free hl)
        obtain ⟨oc, od, fd', sl, hf'⟩ := hf
        refine ⟨rfl, ⟨oc, od, fd', sl, z2 _ _ hf'⟩, ?_⟩
        refine hc rfl hfin _ _ _ z2 (fun H2 l2 as ps e1 hl2 hN hps z3 => ?_) (fun H2 e1 z3 => ?_)
        · subst e1
          refine ⟨l2, as, ps, rfl, hl2, hN, hps, fun H3 r z4 hr3 hr4 => ?_⟩
          refine ⟨l, r, _, _, rfl, rfl, z4 _ _ (z3 _ _ upd_same), hr4, ?_, fun q hq => ?_⟩
          · rw [List.length_map, flatP_len]
            exact Nat.le_of_lt (small1000 (by show 1 + _ ≤ 1000; omega))
          · have z5 := (z2.trans z3).trans z4
            refine k _ q (Same.upd' z5 (z5.free hq)) ?_
            rw [upd_same]
            show _ = some (HO.lst (((0 : Int) :: (flatP ps).map fun (x : Nat) => (x : Int)).map V.int))
            rw [List.map_cons, List.map_map]
            rfl
        · subst e1
          refine ⟨rfl, fun σ' => ⟨_, rfl, s1, fun q hq => ?_⟩⟩
          have z5 := z2.trans z3
          exact k _ q (Same.upd' z5 (z5.free hq)) upd_same

theorem sc_short_enough : FnScope ["row"] ["row"] (defScope s_short_enough) := ⟨rfl, rfl, rfl, by decide +kernel, rfl, by decide +kernel, by decide +kernel⟩
theorem d_short_enough (B : FunB K mg "short_enough" s_short_enough ["row"]) (T : Txt K mg C1 C2) : Dep P w K mg base CX0 1 "short_enough" ["row"] (spShort K) := by
  refine dep_of B sc_short_enough (fun vs H Q E h => ?_) (fun f cdv A outer s H vs Q E hr h => ?_)
  · obtain ⟨p, xs, rfl, _⟩ := h
    rfl
  · obtain ⟨p, xs, rfl, hp, hl, k⟩ := h
    refine ⟨_, pss_one (ps_ret (pe_cmpR opB_le (pe_op opN_fdiv (pe_callB call_len_seq rfl T.n_len PySem.boot_len (pa_cons (pv 0) pa_nil)) pe_int) (gI T.c_MOST_NUMBERS) (nomark _))), ?_⟩
    exact ⟨_, rfl, p, _, rfl, .inl hp, _, 2, _, rfl, rfl, ⟨by decide, Nat.lt_of_lt_of_le (by decide) (Nat.pow_le_pow_right (n := 2) (i := 2) (by decide) (by decide)), rfl⟩, _, 4096, true, rfl, rfl, decide_eq_true (by omega), k⟩

theorem sc_place_in_order : FnScope ["x"] ["x"] (defScope s_place_in_order) := ⟨rfl, rfl, rfl, by decide +kernel, rfl, by decide +kernel, by decide +kernel⟩
theorem d_place_in_order (B : FunB K mg "place_in_order" s_place_in_order ["x"]) (DG : Dep P w K mg base CX0 3 "signed_units" ["x"] spSigned) : Dep P w K mg base CX0 4 "place_in_order" ["x"] (spPlace K) := by
  refine dep_of B sc_place_in_order (fun vs H Q E h => ?_) (fun f cdv A outer s H vs Q E hr h => ?_)
  · obtain ⟨p, x, rfl, _⟩ := h
    rfl
  · obtain ⟨p, x, rfl, hp, hx, k⟩ := h
    refine ⟨_, pss_one (ps_ret (pe_tup (pa_cons (pe_dep DG hr pass0 (pa_cons (pe_ix ix_list (pv 0) pe_int (fun _ _ => rfl)) pa_nil)) (pa_cons (pe_dep DG hr pass0 (pa_cons (pe_ix ix_list (pv 0) pe_int (fun _ _ => rfl)) pa_nil)) pa_nil)))), ?_⟩
    exact ⟨_, rfl, p, _, 0, iv x.1, rfl, rfl, hp, rfl, x.1, rfl, hx.1, _, rfl, p, _, 1, iv x.2, rfl, rfl, hp, rfl, x.2, rfl, hx.2, Nat.le_of_lt (small1000 (by show 2 ≤ 1000; decide)), k⟩

theorem sc_sort : FnScope ["a"] ["a"] (defScope s_sort) := ⟨rfl, rfl, rfl, by decide +kernel, rfl, by decide +kernel, by decide +kernel⟩
def spSort (Pt : Addr) (K : PySem.W.Frag) : Sp := fun vs H Q _ => ∃ (p : Addr) (a : List Nat) (n : Nat), vs = [.ref p] ∧ SqL K H p (a.map iv) ∧ a.length = 2 * n ∧ n ≤ 64 ∧ (∀ x ∈ a, x < 2 ^ 64) ∧ H Pt = some (.tbl #[]) ∧
  ∀ (H' : Hp) (l : Addr), H' l = some (.lst ((ansM (allFin a) (.ok (sortM (CxM.pairsOf a)))).map V.int)) → Q (.ref l) H'
theorem d_sort {f c Pt : Addr} {oc kV dc pm ct : Value} {od an : Option Addr} {sl : Array (Option Value)} (l : K.lookup f = some ⟨oc, od, .func (PySem.W.fnOf "sort" "sort" (defArgs s_sort) (defBody s_sort) (defScope s_sort) .none kV dc pm an (.ref c) ct), sl⟩) (hcd : PySem.W.codeIn K (.ref c) "sort" = true) (T : Txt K mg C1 C2) (M : MkOk mg base c Pt)
    (DA : Dep P w K mg base CX0 10 "answer" ["in_range", "rows", "compute"] (spAnswer P w K mg base C1)) (DS : Dep P w K mg base CX0 1 "short_enough" ["row"] (spShort K)) (DN : Dep P w K mg base CX0 1 "numbers_of" ["row"] (spNumbersOf K)) (DK : Dep P w K mg base CX0 4 "place_in_order" ["x"] (spPlace K)) :
    FnOk P w K mg base CX0 11 f (PySem.W.fnOf "sort" "sort" (defArgs s_sort) (defBody s_sort) (defScope s_sort) .none kV dc pm an (.ref c) ct) ["a"] (spSort Pt K) := by
  refine fn_of l hcd sc_sort (fun vs H Q E h => ?_) (fun A outer s H vs Q E hr h => ?_)
  · obtain ⟨p, a, n, rfl, _⟩ := h
    rfl
  · obtain ⟨p, a, n, rfl, hp, hl, hn, ha, hPt, kk⟩ := h
    refine ⟨_, pss_one (ps_ret (pe_callT [("a", 0)] DA hr (fun _ _ _ _ _ z => z) (pa_cons (pe_dep DS hr pass0 (pa_cons (pv 0) pa_nil)) (pa_cons (pe_lst (pa_cons (pv 0) pa_nil)) (pa_cons (pe_lam rfl (free_by rfl) rfl M.hd M.bm) pa_nil)))
      (List.forall_mem_cons.mpr ⟨⟨rfl, rfl⟩, fun _ h => nomatch h⟩) (List.forall_mem_cons.mpr ⟨rfl, fun _ h => nomatch h⟩))), ?_⟩
    refine ⟨_, rfl, p, _, rfl, hp, by rw [List.length_map]; omega, _, rfl, Nat.le_of_lt (small1000 (by show 1 ≤ 1000; decide)), fun rl hrl => ?_⟩
    have s1 : Same H (upd H rl (.lst [.ref p])) := Same.upd hrl
    refine ⟨#[], s1 _ _ hPt, trivial, rfl, fun f' c' oc cvs ct' pm' ctv nf nc fc fP cP hoc hq => ?_⟩
    intro cs k1 k2 k3
    obtain ⟨m1, m2, m3, m4⟩ := made3 (t := .tbl (#[] ++ #[rawInt _, rawInt _, .ref c'])) (co := fz oc) (fo := fz _) hrl hPt nf nc fc fP cP
    have er : allRows [a] = allFin a := by simp [allRows]
    have nd3 : (["a"] : List Str).Nodup := by decide +kernel
    refine lam_answer (res := .ok (sortM (CxM.pairsOf a))) (rs := [p]) (rows := [a]) (N := ["a"]) (vals := [.ref p]) (SqL.of m3) ⟨⟨seqBut m4 hPt hp, by omega⟩, trivial⟩ (by simp) m1 m2 hoc hq k1 k2 k3 rfl rfl rfl (cell_by (sc := defScope s_sort) (n := 0) rfl).2 nd3 cells_apart (cell_by (sc := defScope s_sort) rfl).1 (by simp)
      (fun i x v h1 h2 => match i, h1, h2 with
        | 0, h1, h2 => by cases h1; cases h2; exact ⟨rfl, 0, .head _, rfl⟩
        | i + 1, _, h2 => by simp at h2) rfl (fun _ hfin A2 outer2 s2 Hc Q1 E1 hr2 sc hQ hE => ?_) (fun H3 r h3 => kk H3 r (by rw [er] at h3; exact h3))
    refine ⟨_, pe_sortK DK hr2 rfl T.n_sorted rfl (pa_cons (pe_dep DN hr2 pass0 (pa_cons (pv 0) pa_nil)) pa_nil), ?_⟩
    have hpc : SqL K Hc p (a.map iv) := sc.seq (seqBut m4 hPt hp)
    have hbt := pairs_bt ha
    have lp := pairsOf_len hl
    refine ⟨_, rfl, p, a, n, rfl, hpc, hl, by omega, fun H2 l2 as s3 _ hl2 hN => ?_⟩
    have lA := hN.length
    have eP := hN.numF
    refine ⟨l2, as, fun b => keyM (numF H2 b), rfl, SqL.of hl2, by omega, fun b hb H' Q' s4 k4 => ?_, fun H' D bs s4 hD p1 p2 p3 => ?_⟩
    · obtain ⟨hE, hm⟩ := hN.mem hb
      exact ⟨b, numF H2 b, rfl, SqL.of (s4 _ _ hE), hbt _ hm, k4⟩
    · have ers : bs.map (numF H2) = sortM (CxM.pairsOf a) := by
        refine sortM_is ?_ fun c => ?_
        · rw [List.pairwise_map]
          exact p2
        · rw [eP, List.filter_map, List.filter_map]
          exact congrArg _ (p3 c)
      refine hQ H' D bs (bs.map (numF H2)) (by rw [ers]) (SqL.of hD) (nums_map fun b hb => s4 _ _ (hN.mem (p1.mem_iff.mp hb)).1) ?_ (s3.trans s4)
      rw [List.length_map, p1.length_eq]
      omega
end
end Pr

set_option Elab.async false
set_option linter.all false
set_option maxRecDepth 100000
set_option maxHeartbeats 4000000
namespace Pr
open PySem PySem.Spec PyProof.Rows L2 CxM
open PySem.W (Codec)

theorem all_mk {P : Program} {w : World} {K : PySem.W.Frag} {h : Heap} {mg : Str → Option Value} {fa C1 C2 f_has_finite_bits f_units_of f_is_finite f_units f_signed_units f_numbers_of f_parts_of f_all_finite f_answer f_short_enough f_place_in_order f_sort : Addr} (X : K.In h) (G : h.Ns mainGlobals mg) (hfa : mg "sort" = some (.ref fa)) {c Pt : Addr} (hco : ∃ o fd, h.get? fa = some o ∧ o.data = .func fd ∧ fd.code = .ref c)
    {t_SIGN t_INFINITY t_FRACTION_BITS t_MOST_NUMBERS : Tok} {od_has_finite_bits an_has_finite_bits od_units_of an_units_of od_is_finite an_is_finite od_units an_units od_signed_units an_signed_units od_numbers_of an_numbers_of od_parts_of an_parts_of od_all_finite an_all_finite od_answer an_answer od_short_enough an_short_enough od_place_in_order an_place_in_order od_sort an_sort : Option Addr} {sl_has_finite_bits sl_units_of sl_is_finite sl_units sl_signed_units sl_numbers_of sl_parts_of sl_all_finite sl_answer sl_short_enough sl_place_in_order sl_sort : Array (Option Value)} {oc_has_finite_bits kV_has_finite_bits dc_has_finite_bits pm_has_finite_bits cd_has_finite_bits ct_has_finite_bits oc_units_of kV_units_of dc_units_of pm_units_of cd_units_of ct_units_of oc_is_finite kV_is_finite dc_is_finite pm_is_finite cd_is_finite ct_is_finite oc_units kV_units dc_units pm_units cd_units ct_units oc_signed_units kV_signed_units dc_signed_units pm_signed_units cd_signed_units ct_signed_units oc_numbers_of kV_numbers_of dc_numbers_of pm_numbers_of cd_numbers_of ct_numbers_of oc_parts_of kV_parts_of dc_parts_of pm_parts_of cd_parts_of ct_parts_of oc_all_finite kV_all_finite dc_all_finite pm_all_finite cd_all_finite ct_all_finite oc_answer kV_answer dc_answer pm_answer cd_answer ct_answer oc_short_enough kV_short_enough dc_short_enough pm_short_enough cd_short_enough ct_short_enough oc_place_in_order kV_place_in_order dc_place_in_order pm_place_in_order cd_place_in_order ct_place_in_order oc_sort kV_sort dc_sort pm_sort cd_sort ct_sort : Value}
    (g_SIGN : PySem.W.nsIn K mainGlobals "SIGN" = some (some (.int 9223372036854775808 t_SIGN)))
    (g_INFINITY : PySem.W.nsIn K mainGlobals "INFINITY" = some (some (.int 9218868437227405312 t_INFINITY)))
    (g_FRACTION_BITS : PySem.W.nsIn K mainGlobals "FRACTION_BITS" = some (some (.int 52 t_FRACTION_BITS)))
    (g_MOST_NUMBERS : PySem.W.nsIn K mainGlobals "MOST_NUMBERS" = some (some (.int 4096 t_MOST_NUMBERS)))
    (n_max : PySem.W.nsIn K mainGlobals "max" = some none)
    (n_all : PySem.W.nsIn K mainGlobals "all" = some none)
    (n_len : PySem.W.nsIn K mainGlobals "len" = some none)
    (n_range : PySem.W.nsIn K mainGlobals "range" = some none)
    (n_zip : PySem.W.nsIn K mainGlobals "zip" = some none)
    (n_list : PySem.W.nsIn K mainGlobals "list" = some none)
    (n_sorted : PySem.W.nsIn K mainGlobals "sorted" = some none)
    (a_NoFiniteResult : PySem.W.nsIn K mainGlobals "NoFiniteResult" = some (some (.ref C1))) (x_NoFiniteResult : PySem.W.excIn K C1 bmA newA = true)
    (a_NoPivot : PySem.W.nsIn K mainGlobals "NoPivot" = some (some (.ref C2))) (x_NoPivot : PySem.W.excIn K C2 bmA newA = true)
    (a_has_finite_bits : PySem.W.nsIn K mainGlobals "has_finite_bits" = some (some (.ref f_has_finite_bits))) (l_has_finite_bits : K.lookup f_has_finite_bits = some ⟨oc_has_finite_bits, od_has_finite_bits, .func (PySem.W.fnOf "has_finite_bits" "has_finite_bits" (defArgs s_has_finite_bits) (defBody s_has_finite_bits) (defScope s_has_finite_bits) .none kV_has_finite_bits dc_has_finite_bits pm_has_finite_bits an_has_finite_bits cd_has_finite_bits ct_has_finite_bits), sl_has_finite_bits⟩) (c_has_finite_bits : PySem.W.codeIn K cd_has_finite_bits "has_finite_bits" = true) (k_has_finite_bits : PySem.W.keepIn K (.ref f_has_finite_bits) = true)
    (a_units_of : PySem.W.nsIn K mainGlobals "units_of" = some (some (.ref f_units_of))) (l_units_of : K.lookup f_units_of = some ⟨oc_units_of, od_units_of, .func (PySem.W.fnOf "units_of" "units_of" (defArgs s_units_of) (defBody s_units_of) (defScope s_units_of) .none kV_units_of dc_units_of pm_units_of an_units_of cd_units_of ct_units_of), sl_units_of⟩) (c_units_of : PySem.W.codeIn K cd_units_of "units_of" = true) (k_units_of : PySem.W.keepIn K (.ref f_units_of) = true)
    (a_is_finite : PySem.W.nsIn K mainGlobals "is_finite" = some (some (.ref f_is_finite))) (l_is_finite : K.lookup f_is_finite = some ⟨oc_is_finite, od_is_finite, .func (PySem.W.fnOf "is_finite" "is_finite" (defArgs s_is_finite) (defBody s_is_finite) (defScope s_is_finite) .none kV_is_finite dc_is_finite pm_is_finite an_is_finite cd_is_finite ct_is_finite), sl_is_finite⟩) (c_is_finite : PySem.W.codeIn K cd_is_finite "is_finite" = true) (k_is_finite : PySem.W.keepIn K (.ref f_is_finite) = true)
    (a_units : PySem.W.nsIn K mainGlobals "units" = some (some (.ref f_units))) (l_units : K.lookup f_units = some ⟨oc_units, od_units, .func (PySem.W.fnOf "units" "units" (defArgs s_units) (defBody s_units) (defScope s_units) .none kV_units dc_units pm_units an_units cd_units ct_units), sl_units⟩) (c_units : PySem.W.codeIn K cd_units "units" = true) (k_units : PySem.W.keepIn K (.ref f_units) = true)
    (a_signed_units : PySem.W.nsIn K mainGlobals "signed_units" = some (some (.ref f_signed_units))) (l_signed_units : K.lookup f_signed_units = some ⟨oc_signed_units, od_signed_units, .func (PySem.W.fnOf "signed_units" "signed_units" (defArgs s_signed_units) (defBody s_signed_units) (defScope s_signed_units) .none kV_signed_units dc_signed_units pm_signed_units an_signed_units cd_signed_units ct_signed_units), sl_signed_units⟩) (c_signed_units : PySem.W.codeIn K cd_signed_units "signed_units" = true) (k_signed_units : PySem.W.keepIn K (.ref f_signed_units) = true)
    (a_numbers_of : PySem.W.nsIn K mainGlobals "numbers_of" = some (some (.ref f_numbers_of))) (l_numbers_of : K.lookup f_numbers_of = some ⟨oc_numbers_of, od_numbers_of, .func (PySem.W.fnOf "numbers_of" "numbers_of" (defArgs s_numbers_of) (defBody s_numbers_of) (defScope s_numbers_of) .none kV_numbers_of dc_numbers_of pm_numbers_of an_numbers_of cd_numbers_of ct_numbers_of), sl_numbers_of⟩) (c_numbers_of : PySem.W.codeIn K cd_numbers_of "numbers_of" = true) (k_numbers_of : PySem.W.keepIn K (.ref f_numbers_of) = true)
    (a_parts_of : PySem.W.nsIn K mainGlobals "parts_of" = some (some (.ref f_parts_of))) (l_parts_of : K.lookup f_parts_of = some ⟨oc_parts_of, od_parts_of, .func (PySem.W.fnOf "parts_of" "parts_of" (defArgs s_parts_of) (defBody s_parts_of) (defScope s_parts_of) .none kV_parts_of dc_parts_of pm_parts_of an_parts_of cd_parts_of ct_parts_of), sl_parts_of⟩) (c_parts_of : PySem.W.codeIn K cd_parts_of "parts_of" = true) (k_parts_of : PySem.W.keepIn K (.ref f_parts_of) = true)
    (a_all_finite : PySem.W.nsIn K mainGlobals "all_finite" = some (some (.ref f_all_finite))) (l_all_finite : K.lookup f_all_finite = some ⟨oc_all_finite, od_all_finite, .func (PySem.W.fnOf "all_finite" "all_finite" (defArgs s_all_finite) (defBody s_all_finite) (defScope s_all_finite) .none kV_all_finite dc_all_finite pm_all_finite an_all_finite cd_all_finite ct_all_finite), sl_all_finite⟩) (c_all_finite : PySem.W.codeIn K cd_all_finite "all_finite" = true) (k_all_finite : PySem.W.keepIn K (.ref f_all_finite) = true)
    (a_answer : PySem.W.nsIn K mainGlobals "answer" = some (some (.ref f_answer))) (l_answer : K.lookup f_answer = some ⟨oc_answer, od_answer, .func (PySem.W.fnOf "answer" "answer" (defArgs s_answer) (defBody s_answer) (defScope s_answer) .none kV_answer dc_answer pm_answer an_answer cd_answer ct_answer), sl_answer⟩) (c_answer : PySem.W.codeIn K cd_answer "answer" = true) (k_answer : PySem.W.keepIn K (.ref f_answer) = true)
    (a_short_enough : PySem.W.nsIn K mainGlobals "short_enough" = some (some (.ref f_short_enough))) (l_short_enough : K.lookup f_short_enough = some ⟨oc_short_enough, od_short_enough, .func (PySem.W.fnOf "short_enough" "short_enough" (defArgs s_short_enough) (defBody s_short_enough) (defScope s_short_enough) .none kV_short_enough dc_short_enough pm_short_enough an_short_enough cd_short_enough ct_short_enough), sl_short_enough⟩) (c_short_enough : PySem.W.codeIn K cd_short_enough "short_enough" = true) (k_short_enough : PySem.W.keepIn K (.ref f_short_enough) = true)
    (a_place_in_order : PySem.W.nsIn K mainGlobals "place_in_order" = some (some (.ref f_place_in_order))) (l_place_in_order : K.lookup f_place_in_order = some ⟨oc_place_in_order, od_place_in_order, .func (PySem.W.fnOf "place_in_order" "place_in_order" (defArgs s_place_in_order) (defBody s_place_in_order) (defScope s_place_in_order) .none kV_place_in_order dc_place_in_order pm_place_in_order an_place_in_order cd_place_in_order ct_place_in_order), sl_place_in_order⟩) (c_place_in_order : PySem.W.codeIn K cd_place_in_order "place_in_order" = true) (k_place_in_order : PySem.W.keepIn K (.ref f_place_in_order) = true)
    (a_sort : PySem.W.nsIn K mainGlobals "sort" = some (some (.ref f_sort))) (l_sort : K.lookup f_sort = some ⟨oc_sort, od_sort, .func (PySem.W.fnOf "sort" "sort" (defArgs s_sort) (defBody s_sort) (defScope s_sort) .none kV_sort dc_sort pm_sort an_sort cd_sort ct_sort), sl_sort⟩) (c_sort : PySem.W.codeIn K cd_sort "sort" = true) (k_sort : PySem.W.keepIn K (.ref f_sort) = true)
    : ∃ fd : FuncData, (∀ (s : Shared) (us : List Value), us.length = (["a"] : List Str).length → BindsTo s fd ⟨us, []⟩ ((["a"] : List Str).zip us)) ∧ ∀ base : Heap, K.In base → base.Ns mainGlobals mg → MkOk mg base c Pt → FnOk P w K mg base CX0 11 fa fd ["a"] (spSort Pt K) := by
  have e := hfa.symm.trans (PySem.W.mg_of X G a_sort)
  cases e
  have ec : cd_sort = .ref c := by
    obtain ⟨o, fd, e1, e2, e3⟩ := hco
    rw [X _ _ l_sort] at e1
    cases e1
    cases e2
    exact e3
  subst ec
  have T : Txt K mg C1 C2 := ⟨⟨_, PySem.W.mg_of X G g_SIGN⟩, ⟨_, PySem.W.mg_of X G g_INFINITY⟩, ⟨_, PySem.W.mg_of X G g_FRACTION_BITS⟩, ⟨_, PySem.W.mg_of X G g_MOST_NUMBERS⟩, PySem.W.ns_none_of X G n_max, PySem.W.ns_none_of X G n_all, PySem.W.ns_none_of X G n_len, PySem.W.ns_none_of X G n_range, PySem.W.ns_none_of X G n_zip, PySem.W.ns_none_of X G n_list, PySem.W.ns_none_of X G n_sorted, PySem.W.mg_of X G a_NoFiniteResult, x_NoFiniteResult, PySem.W.mg_of X G a_NoPivot, x_NoPivot⟩
  have F_has_finite_bits := fun_mk (st := s_has_finite_bits) l_has_finite_bits c_has_finite_bits k_has_finite_bits
  have b_has_finite_bits := F_has_finite_bits.binds (ps := ["bits", "infinity"]) fun _ _ _ _ _ _ us hl => match us, hl with | [_, _], _ => rfl
  have B_has_finite_bits : FunB K mg "has_finite_bits" s_has_finite_bits ["bits", "infinity"] := ⟨_, _, PySem.W.mg_of X G a_has_finite_bits, b_has_finite_bits, F_has_finite_bits⟩
  have F_units_of := fun_mk (st := s_units_of) l_units_of c_units_of k_units_of
  have b_units_of := F_units_of.binds (ps := ["bits", "fraction_bits", "infinity"]) fun _ _ _ _ _ _ us hl => match us, hl with | [_, _, _], _ => rfl
  have B_units_of : FunB K mg "units_of" s_units_of ["bits", "fraction_bits", "infinity"] := ⟨_, _, PySem.W.mg_of X G a_units_of, b_units_of, F_units_of⟩
  have F_is_finite := fun_mk (st := s_is_finite) l_is_finite c_is_finite k_is_finite
  have b_is_finite := F_is_finite.binds (ps := ["x"]) fun _ _ _ _ _ _ us hl => match us, hl with | [_], _ => rfl
  have B_is_finite : FunB K mg "is_finite" s_is_finite ["x"] := ⟨_, _, PySem.W.mg_of X G a_is_finite, b_is_finite, F_is_finite⟩
  have F_units := fun_mk (st := s_units) l_units c_units k_units
  have b_units := F_units.binds (ps := ["x"]) fun _ _ _ _ _ _ us hl => match us, hl with | [_], _ => rfl
  have B_units : FunB K mg "units" s_units ["x"] := ⟨_, _, PySem.W.mg_of X G a_units, b_units, F_units⟩
  have F_signed_units := fun_mk (st := s_signed_units) l_signed_units c_signed_units k_signed_units
  have b_signed_units := F_signed_units.binds (ps := ["x"]) fun _ _ _ _ _ _ us hl => match us, hl with | [_], _ => rfl
  have B_signed_units : FunB K mg "signed_units" s_signed_units ["x"] := ⟨_, _, PySem.W.mg_of X G a_signed_units, b_signed_units, F_signed_units⟩
  have F_numbers_of := fun_mk (st := s_numbers_of) l_numbers_of c_numbers_of k_numbers_of
  have b_numbers_of := F_numbers_of.binds (ps := ["row"]) fun _ _ _ _ _ _ us hl => match us, hl with | [_], _ => rfl
  have B_numbers_of : FunB K mg "numbers_of" s_numbers_of ["row"] := ⟨_, _, PySem.W.mg_of X G a_numbers_of, b_numbers_of, F_numbers_of⟩
  have F_parts_of := fun_mk (st := s_parts_of) l_parts_of c_parts_of k_parts_of
  have b_parts_of := F_parts_of.binds (ps := ["numbers"]) fun _ _ _ _ _ _ us hl => match us, hl with | [_], _ => rfl
  have B_parts_of : FunB K mg "parts_of" s_parts_of ["numbers"] := ⟨_, _, PySem.W.mg_of X G a_parts_of, b_parts_of, F_parts_of⟩
  have F_all_finite := fun_mk (st := s_all_finite) l_all_finite c_all_finite k_all_finite
  have b_all_finite := F_all_finite.binds (ps := ["row"]) fun _ _ _ _ _ _ us hl => match us, hl with | [_], _ => rfl
  have B_all_finite : FunB K mg "all_finite" s_all_finite ["row"] := ⟨_, _, PySem.W.mg_of X G a_all_finite, b_all_finite, F_all_finite⟩
  have F_answer := fun_mk (st := s_answer) l_answer c_answer k_answer
  have b_answer := F_answer.binds (ps := ["in_range", "rows", "compute"]) fun _ _ _ _ _ _ us hl => match us, hl with | [_, _, _], _ => rfl
  have B_answer : FunB K mg "answer" s_answer ["in_range", "rows", "compute"] := ⟨_, _, PySem.W.mg_of X G a_answer, b_answer, F_answer⟩
  have F_short_enough := fun_mk (st := s_short_enough) l_short_enough c_short_enough k_short_enough
  have b_short_enough := F_short_enough.binds (ps := ["row"]) fun _ _ _ _ _ _ us hl => match us, hl with | [_], _ => rfl
  have B_short_enough : FunB K mg "short_enough" s_short_enough ["row"] := ⟨_, _, PySem.W.mg_of X G a_short_enough, b_short_enough, F_short_enough⟩
  have F_place_in_order := fun_mk (st := s_place_in_order) l_place_in_order c_place_in_order k_place_in_order
  have b_place_in_order := F_place_in_order.binds (ps := ["x"]) fun _ _ _ _ _ _ us hl => match us, hl with | [_], _ => rfl
  have B_place_in_order : FunB K mg "place_in_order" s_place_in_order ["x"] := ⟨_, _, PySem.W.mg_of X G a_place_in_order, b_place_in_order, F_place_in_order⟩
  have F_sort := fun_mk (st := s_sort) l_sort c_sort k_sort
  have b_sort := F_sort.binds (ps := ["a"]) fun _ _ _ _ _ _ us hl => match us, hl with | [_], _ => rfl
  have B_sort : FunB K mg "sort" s_sort ["a"] := ⟨_, _, PySem.W.mg_of X G a_sort, b_sort, F_sort⟩
  refine ⟨PySem.W.fnOf "sort" "sort" (defArgs s_sort) (defBody s_sort) (defScope s_sort) .none kV_sort dc_sort pm_sort an_sort (.ref c) ct_sort, fun s us hu => match us, hu with | [_], _ => .of_eq rfl, fun base _ _ M => ?_⟩
  have D_has_finite_bits := d_has_finite_bits (P := P) (w := w) (base := base) B_has_finite_bits
  have D_units_of := d_units_of (P := P) (w := w) (base := base) B_units_of
  have D_is_finite := d_is_finite B_is_finite T D_has_finite_bits
  have D_units := d_units B_units T D_units_of
  have D_signed_units := d_signed_units B_signed_units T D_units
  have D_numbers_of := d_numbers_of (P := P) (w := w) (base := base) B_numbers_of T
  have D_parts_of := d_parts_of (P := P) (w := w) (base := base) B_parts_of T
  have D_all_finite := d_all_finite B_all_finite T D_is_finite
  have D_answer := d_answer B_answer T D_all_finite D_parts_of
  have D_short_enough := d_short_enough (P := P) (w := w) (base := base) B_short_enough T
  have D_place_in_order := d_place_in_order B_place_in_order D_signed_units
  exact d_sort l_sort c_sort T M D_answer D_short_enough D_numbers_of D_place_in_order
end Pr
open PySem PySem.W PyProof.Rows
set_option maxRecDepth 100000 in
set_option maxHeartbeats 0 in
theorem PySem.Challenge.cw_complexrows_s09_sort_holds : PySem.Challenge.rw_complexrows_s09_sort.Holds := by
  w_on; k_headS; (case hw => exact ⟨[.list []], by decide +kernel, by decide +kernel⟩)
  k_fillS
  refine L2.walk_specL (r := PySem.Challenge.rw_complexrows_s09_sort) (k := 11) (CX := L2.CX0) (ps := ["a"]) (sp := Pr.spSort) (by decide +kernel) rfl rfl ⟨rfl, by decide, by decide⟩ (List.mem_of_find?_eq_some (p := fun e => e.name == ("sort" : PySem.Str)) (by kernel_rfl)) (fun w => by kernel_rfl) (fun w h Y => PySem.W.kIn_of Y) ?F ?S (fun _ _ _ _ z => z)
  case F =>
    intro w mg fa c Pt h Y KX G hmg hco
    refine' Pr.all_mk  KX G hmg hco ?g_SIGN ?g_INFINITY ?g_FRACTION_BITS ?g_MOST_NUMBERS ?n_max ?n_all ?n_len ?n_range ?n_zip ?n_list ?n_sorted ?a_NoFiniteResult ?x_NoFiniteResult ?a_NoPivot ?x_NoPivot ?a_has_finite_bits ?l_has_finite_bits ?c_has_finite_bits ?k_has_finite_bits ?a_units_of ?l_units_of ?c_units_of ?k_units_of ?a_is_finite ?l_is_finite ?c_is_finite ?k_is_finite ?a_units ?l_units ?c_units ?k_units ?a_signed_units ?l_signed_units ?c_signed_units ?k_signed_units ?a_numbers_of ?l_numbers_of ?c_numbers_of ?k_numbers_of ?a_parts_of ?l_parts_of ?c_parts_of ?k_parts_of ?a_all_finite ?l_all_finite ?c_all_finite ?k_all_finite ?a_answer ?l_answer ?c_answer ?k_answer ?a_short_enough ?l_short_enough ?c_short_enough ?k_short_enough ?a_place_in_order ?l_place_in_order ?c_place_in_order ?k_place_in_order ?a_sort ?l_sort ?c_sort ?k_sort
    (case g_SIGN => k_is)
    (case g_INFINITY => k_is)
    (case g_FRACTION_BITS => k_is)
    (case g_MOST_NUMBERS => k_is)
    (case n_max => k_is)
    (case n_all => k_is)
    (case n_len => k_is)
    (case n_range => k_is)
    (case n_zip => k_is)
    (case n_list => k_is)
    (case n_sorted => k_is)
    (case a_NoFiniteResult => k_is)
    (case x_NoFiniteResult => k_exc)
    (case a_NoPivot => k_is)
    (case x_NoPivot => k_exc)
    (case a_has_finite_bits => k_is)
    (case l_has_finite_bits => k_is)
    (case c_has_finite_bits => k_is)
    (case k_has_finite_bits => k_is)
    (case a_units_of => k_is)
    (case l_units_of => k_is)
    (case c_units_of => k_is)
    (case k_units_of => k_is)
    (case a_is_finite => k_is)
    (case l_is_finite => k_is)
    (case c_is_finite => k_is)
    (case k_is_finite => k_is)
    (case a_units => k_is)
    (case l_units => k_is)
    (case c_units => k_is)
    (case k_units => k_is)
    (case a_signed_units => k_is)
    (case l_signed_units => k_is)
    (case c_signed_units => k_is)
    (case k_signed_units => k_is)
    (case a_numbers_of => k_is)
    (case l_numbers_of => k_is)
    (case c_numbers_of => k_is)
    (case k_numbers_of => k_is)
    (case a_parts_of => k_is)
    (case l_parts_of => k_is)
    (case c_parts_of => k_is)
    (case k_parts_of => k_is)
    (case a_all_finite => k_is)
    (case l_all_finite => k_is)
    (case c_all_finite => k_is)
    (case k_all_finite => k_is)
    (case a_answer => k_is)
    (case l_answer => k_is)
    (case c_answer => k_is)
    (case k_answer => k_is)
    (case a_short_enough => k_is)
    (case l_short_enough => k_is)
    (case c_short_enough => k_is)
    (case k_short_enough => k_is)
    (case a_place_in_order => k_is)
    (case l_place_in_order => k_is)
    (case c_place_in_order => k_is)
    (case k_place_in_order => k_is)
    (case a_sort => k_is)
    (case l_sort => k_is)
    (case c_sort => k_is)
    (case k_sort => k_is)
  case S =>
    intro K Pt H xs a hPt hwi hask hx
    cases hx with
    | cons h3 h4 =>
        cases h4
        cases h3 with
        | lst hs ha =>
          have e := L2.ints_dw a.1 _ ha
          subst e
          have q : PySc06.sort_asked a.1 = true := hask
          obtain ⟨n, hn, la, pa⟩ := CxM.row64_asked (CxM.asked1_of q)
          have ea : a.1.map L2.V.int = (Sc06Neutral.nats a.1).map Pr.iv := Pr.nats_iv pa
          rw [ea] at hs
          refine ⟨_, Sc06Neutral.nats a.1, n, rfl, hs, (CxM.nats_len _).trans la, hn, CxM.nats_lt pa, hPt, fun H' l hl => ?_⟩
          rw [← CxM.sort_spec q] at hl
          exact .lst (L2.SqL.of hl) (L2.dw_ints _)

